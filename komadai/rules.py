"""Which positions can be."""

from komadai.pieces import KING, KNIGHT, LANCE, PAWN, SECOND, is_piece, kind_of, plain_kind_of, side_of
from komadai.places import TURN, hands_of, squares_of
from komadai.reach import in_check, rows_ahead

# At each kind's number how many of it there may be in all, from pawns to rooks.
MOST_OF_KIND = (0, 18, 4, 4, 4, 4, 2, 2)


def can_be(position):
    squares = squares_of(position)
    turn = position[TURN]
    return (
        turn in (0, 1)
        and pieces_are_known(squares)
        and no_kind_is_too_many(squares, hands_of(position))
        and kings_are_there(squares)
        and no_column_has_two_pawns(squares)
        and no_piece_is_stuck(squares)
        and not in_check(squares, 1 - turn)
    )


def pieces_are_known(squares):
    return all([piece == 0 or is_piece(piece) for piece in squares])


def no_kind_is_too_many(squares, hands):
    counts = [0] * (KING + 1)
    for piece in squares:
        if piece != 0:
            counts[plain_kind_of(piece)] += 1
    for place, amount in enumerate(hands):
        counts[place % 7 + 1] += amount
    return all([counts[kind] <= most for kind, most in enumerate(MOST_OF_KIND) if kind > 0])


def kings_are_there(squares):
    return squares.count(KING) == 1 and squares.count(KING + SECOND) == 1


def no_column_has_two_pawns(squares):
    for column in range(9):
        standing = squares[column:81:9]
        if standing.count(PAWN) > 1 or standing.count(PAWN + SECOND) > 1:
            return False
    return True


def no_piece_is_stuck(squares):
    return not any([piece != 0 and never_moves(piece, square) for square, piece in enumerate(squares)])


# Whether the piece could not go anywhere from there, were the board empty.
def never_moves(piece, square):
    rows = rows_ahead(square, side_of(piece))
    kind = kind_of(piece)
    if kind in (PAWN, LANCE):
        return rows < 1
    return kind == KNIGHT and rows < 2
