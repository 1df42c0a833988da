"""The calls: lists of whole numbers in, lists of whole numbers out."""

from komadai.moves import legal_moves
from komadai.places import NUMBER, TURN, squares_of
from komadai.play import position_after, tells_move
from komadai.reach import in_check
from komadai.rules import can_be
from komadai.texts import codes_of, read_position, text_of, write_move, write_position
from komadai.ways import count_ways

NOT_TOLD = -1
NOT_LEGAL = -1
NO_SUCH_NUMBER = -1
CANNOT_BE = -2
TOO_MANY = -3
TOO_LATE = -3
TOO_FAR = -3

LONGEST_TEXT = 256
LEAST_NUMBER = 1
GREATEST_NUMBER = 65534
MOST_MOVES_COUNTED = 3

# What a state is put together from.
IN_CHECK = 1
NO_MOVE = 2


def sg_set(text):
    if len(text) > LONGEST_TEXT:
        return [NOT_TOLD]
    position = read_position(text_of(text))
    if position is None or not LEAST_NUMBER <= position[NUMBER] <= GREATEST_NUMBER:
        return [NOT_TOLD]
    if not can_be(position):
        return [CANNOT_BE]
    return [0] + position


def sg_text(position):
    if not can_be(position):
        return [CANNOT_BE]
    return told(write_position(position))


def sg_moves(most, position):
    if not can_be(position):
        return [CANNOT_BE]
    moves = legal_moves(position)
    if len(moves) > most:
        return [TOO_MANY]
    return [len(moves)] + moves


def sg_play(move, position):
    if not can_be(position):
        return [CANNOT_BE]
    if position[NUMBER] >= GREATEST_NUMBER:
        return [TOO_LATE]
    if move not in legal_moves(position):
        return [NOT_LEGAL]
    return [0] + position_after(move, position)


def sg_count(n, position):
    if not can_be(position):
        return [CANNOT_BE]
    if n > MOST_MOVES_COUNTED or position[NUMBER] + n > GREATEST_NUMBER:
        return [TOO_FAR]
    return [count_ways(n, position)]


def sg_state(position):
    if not can_be(position):
        return [CANNOT_BE]
    state = 0
    if in_check(squares_of(position), position[TURN]):
        state += IN_CHECK
    if len(legal_moves(position)) == 0:
        state += NO_MOVE
    return [state]


def sg_name(move):
    if not tells_move(move):
        return [NO_SUCH_NUMBER]
    return told(write_move(move))


# How many bytes the text has, then these.
def told(text):
    return [len(text)] + codes_of(text)
