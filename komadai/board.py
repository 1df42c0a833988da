"""The calls: lists of whole numbers in, lists of whole numbers out."""

from komadai.rules import can_be
from komadai.texts import codes_of, read_position, text_of, write_position

NOT_TOLD = -1
CANNOT_BE = -2

LONGEST_TEXT = 256
LEAST_NUMBER = 1
GREATEST_NUMBER = 65534


def sg_set(text):
    if len(text) > LONGEST_TEXT:
        return [NOT_TOLD]
    position = read_position(text_of(text))
    if position is None or not LEAST_NUMBER <= position[96] <= GREATEST_NUMBER:
        return [NOT_TOLD]
    if not can_be(position):
        return [CANNOT_BE]
    return [0] + position


def sg_text(position):
    if not can_be(position):
        return [CANNOT_BE]
    text = write_position(position)
    return [len(text)] + codes_of(text)
