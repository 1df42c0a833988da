"""A move's number, and the position behind the move."""

from komadai.pieces import PROMOTED, SECOND, plain_kind_of
from komadai.places import HANDS, NUMBER, TURN, hand_place

LAST_SQUARE = 80

# A piece from the hand comes from here and its kind: 81 to 87, behind the last square.
FROM_HAND = 80
LAST_SOURCE = 87
PROMOTES = 16384

# The numbers of all moves lie below this.
BEYOND_MOVES = 32768


def move_number(source, target):
    return 128 * source + target


def target_of(move):
    return move % 128


def source_of(move):
    return move // 128 % 128


def is_from_hand(move):
    return source_of(move) > FROM_HAND


def promotes(move):
    return move >= PROMOTES


# Whether the number tells a move at all, be it one that no piece could ever do.
def tells_move(number):
    if number >= BEYOND_MOVES or target_of(number) > LAST_SQUARE or source_of(number) > LAST_SOURCE:
        return False
    return not (promotes(number) and is_from_hand(number))


# The move has to be one that the position has: nothing of it is looked at again.
def position_after(move, position):
    after = list(position)
    if is_from_hand(move):
        put_from_hand(move, after)
    else:
        go_on_board(move, after)
    after[TURN] = 1 - position[TURN]
    after[NUMBER] += 1
    return after


def put_from_hand(move, after):
    kind = source_of(move) - FROM_HAND
    side = after[TURN]
    after[HANDS + hand_place(kind, side)] -= 1
    after[target_of(move)] = kind + SECOND * side


def go_on_board(move, after):
    source = source_of(move)
    target = target_of(move)
    if after[target] != 0:
        after[HANDS + hand_place(plain_kind_of(after[target]), after[TURN])] += 1
    after[target] = after[source]
    if promotes(move):
        after[target] += PROMOTED
    after[source] = 0
