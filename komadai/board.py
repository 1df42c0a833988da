"""The calls: lists of whole numbers in, lists of whole numbers out."""

from komadai.moves import legal_moves
from komadai.places import NUMBER
from komadai.play import position_after
from komadai.rules import can_be
from komadai.texts import codes_of, read_position, text_of, write_position

NOT_TOLD = -1
NOT_LEGAL = -1
CANNOT_BE = -2
TOO_MANY = -3
TOO_LATE = -3

LONGEST_TEXT = 256
LEAST_NUMBER = 1
GREATEST_NUMBER = 65534


def sg_set(text):
    if len(text) > LONGEST_TEXT:
        return [NOT_TOLD]
    position = read_position(text_of(text))
    if position is None or not LEAST_NUMBER <= position[NUMBER] <= GREATEST_NUMBER:
        return [NOT_TOLD]
    if not can_be(position):
        return [CANNOT_BE]
    return [0] + position


def sg_text(position):
    if not can_be(position):
        return [CANNOT_BE]
    text = write_position(position)
    return [len(text)] + codes_of(text)


def sg_moves(most, position):
    if not can_be(position):
        return [CANNOT_BE]
    moves = legal_moves(position)
    if len(moves) > most:
        return [TOO_MANY]
    return [len(moves)] + moves


def sg_play(move, position):
    if not can_be(position):
        return [CANNOT_BE]
    if position[NUMBER] >= GREATEST_NUMBER:
        return [TOO_LATE]
    if move not in legal_moves(position):
        return [NOT_LEGAL]
    return [0] + position_after(move, position)
