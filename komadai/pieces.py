"""Pieces as numbers: what they are called, whose they are, and how they go."""

PAWN = 1
LANCE = 2
KNIGHT = 3
GOLD = 5
KING = 8
PROMOTED = 8
SECOND = 16

# At each piece's number its name; the numbers that are no piece have the empty text.
PIECE_NAMES = (
    "", "P", "L", "N", "S", "G", "B", "R", "K", "+P", "+L", "+N", "+S", "", "+B", "+R",
    "", "p", "l", "n", "s", "g", "b", "r", "k", "+p", "+l", "+n", "+s", "", "+b", "+r",
)

# A step is told as its mover sees it: rows ahead, columns aside. So one table serves both players.
NEAR_STEPS = {
    1: ((1, 0),),
    3: ((2, -1), (2, 1)),
    4: ((1, -1), (1, 0), (1, 1), (-1, -1), (-1, 1)),
    5: ((1, -1), (1, 0), (1, 1), (0, -1), (0, 1), (-1, 0)),
    8: ((1, -1), (1, 0), (1, 1), (0, -1), (0, 1), (-1, -1), (-1, 0), (-1, 1)),
    14: ((1, 0), (0, -1), (0, 1), (-1, 0)),
    15: ((1, -1), (1, 1), (-1, -1), (-1, 1)),
}

FAR_STEPS = {
    2: ((1, 0),),
    6: ((1, -1), (1, 1), (-1, -1), (-1, 1)),
    7: ((1, 0), (0, -1), (0, 1), (-1, 0)),
    14: ((1, -1), (1, 1), (-1, -1), (-1, 1)),
    15: ((1, 0), (0, -1), (0, 1), (-1, 0)),
}

# Promoted pawn, lance, knight and silver.
LIKE_GOLD = (9, 10, 11, 12)

# All but gold, king and what is promoted already.
CAN_PROMOTE = (1, 2, 3, 4, 6, 7)

# Rooks first, as hands are told.
HAND_KINDS = (7, 6, 5, 4, 3, 2, 1)


def is_piece(number):
    return number < len(PIECE_NAMES) and PIECE_NAMES[number] != ""


def side_of(piece):
    return piece // SECOND


# An empty square is nobody's.
def belongs_to(piece, side):
    return piece != 0 and side_of(piece) == side


# The kind with its promotion: 1 to 15.
def kind_of(piece):
    return piece % SECOND


# The kind it has when it comes into a hand, promoted or not: 1 to 8.
def plain_kind_of(piece):
    return (piece - 1) % 8 + 1


def near_steps(kind):
    if kind in LIKE_GOLD:
        return NEAR_STEPS[GOLD]
    return NEAR_STEPS.get(kind, ())


def far_steps(kind):
    return FAR_STEPS.get(kind, ())
