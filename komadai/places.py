"""Where the 97 numbers of a position lie: the squares, the hands, turn, number."""

HANDS = 81
TURN = 95
NUMBER = 96


def squares_of(position):
    return position[0:HANDS]


def hands_of(position):
    return position[HANDS:TURN]


# The place within the hands.
def hand_place(kind, side):
    return 7 * side + kind - 1
