"""Positions and moves told as texts, and texts read as positions."""

from komadai.pieces import HAND_KINDS, KING, PIECE_NAMES, SECOND, kind_of, side_of
from komadai.places import NUMBER, TURN, hand_place, hands_of
from komadai.play import FROM_HAND, is_from_hand, promotes, source_of, target_of

# Every sign that a position's text can have.
SIGNS = " +-/0123456789BGKLNPRSbgklnprsw"

# How many of a kind a position's hand has room for.
MOST_IN_HAND = 255

# The rows from the top.
ROW_NAMES = "abcdefghi"


def codes_of(text):
    return [ord(sign) for sign in text]


# A byte that no text has becomes "?", so that no position is ever told by what comes out.
def text_of(codes):
    sign_of_code = {}
    for sign in SIGNS:
        sign_of_code[ord(sign)] = sign
    return "".join([sign_of_code.get(code, "?") for code in codes])


def write_position(position):
    rows = [write_row(position[start:start + 9]) for start in range(0, 81, 9)]
    board = "/".join(rows)
    turn = "b" if position[TURN] == 0 else "w"
    hands = write_hands(hands_of(position))
    number = str(position[NUMBER])
    return f"{board} {turn} {hands} {number}"


def write_row(row):
    text = ""
    gap = 0
    for piece in row:
        if piece == 0:
            gap += 1
        else:
            text += write_gap(gap) + PIECE_NAMES[piece]
            gap = 0
    return text + write_gap(gap)


def write_gap(gap):
    return "" if gap == 0 else str(gap)


def write_hands(hands):
    text = write_hand(hands, 0) + write_hand(hands, 1)
    return "-" if text == "" else text


def write_hand(hands, side):
    text = ""
    for kind in HAND_KINDS:
        amount = hands[hand_place(kind, side)]
        if amount > 1:
            text += str(amount)
        if amount > 0:
            text += PIECE_NAMES[kind + SECOND * side]
    return text


# The position that is told, or None. Each is told in one way only, so the readers below may
# pass over what they don't know: what isn't written back just as it came tells no position.
def read_position(text):
    parts = text.split(" ")
    if len(parts) != 4 or not parts[3].isdigit():
        return None
    squares = read_board(parts[0])
    hands = read_hands(parts[2])
    if len(squares) != 81 or max(hands) > MOST_IN_HAND:
        return None
    turn = 1 if parts[1] == "w" else 0
    position = squares + hands + [turn, int(parts[3])]
    return position if write_position(position) == text else None


def read_board(text):
    squares = []
    name = ""
    for sign in text:
        name += sign
        if sign.isdigit():
            squares.extend([0] * int(sign))
        elif name in PIECE_NAMES:
            squares.append(PIECE_NAMES.index(name))
        # A "+" waits for the letter behind it.
        if sign != "+":
            name = ""
    return squares


def read_hands(text):
    hands = [0] * 14
    digits = ""
    for sign in text:
        if sign.isdigit():
            digits += sign
        elif is_hand_letter(sign):
            piece = PIECE_NAMES.index(sign)
            hands[hand_place(kind_of(piece), side_of(piece))] = 1 if digits == "" else int(digits)
            digits = ""
    return hands


def is_hand_letter(sign):
    return sign in PIECE_NAMES and kind_of(PIECE_NAMES.index(sign)) != KING


def write_move(move):
    target = write_square(target_of(move))
    if is_from_hand(move):
        return PIECE_NAMES[source_of(move) - FROM_HAND] + "*" + target
    ending = "+" if promotes(move) else ""
    return write_square(source_of(move)) + target + ending


# Columns are told from the right, while squares are numbered from the left.
def write_square(square):
    return str(9 - square % 9) + ROW_NAMES[square // 9]
