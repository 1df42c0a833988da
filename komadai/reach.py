"""Where the pieces on a board of 81 squares can go, and whose king stands in check."""

from komadai.pieces import KING, SECOND, far_steps, kind_of, near_steps, side_of


# Rows left between a square and its player's last row.
def rows_ahead(square, side):
    row = square // 9
    return row if side == 0 else 8 - row


# The square that a step leads to, or -1 if that lies outside the board.
def square_after(square, step, side):
    ahead = step[0] if side == 1 else -step[0]
    row = square // 9 + ahead
    column = square % 9 + step[1]
    if 0 <= row < 9 and 0 <= column < 9:
        return row * 9 + column
    return -1


# The squares along one way, up to the first piece and with it, whosever it is.
def squares_along(squares, square, step, side):
    found = []
    target = square_after(square, step, side)
    while target >= 0:
        found.append(target)
        if squares[target] != 0:
            break
        target = square_after(target, step, side)
    return found


def squares_in_reach(squares, square):
    side = side_of(squares[square])
    kind = kind_of(squares[square])
    found = []
    for step in near_steps(kind):
        target = square_after(square, step, side)
        if target >= 0:
            found.append(target)
    for step in far_steps(kind):
        found.extend(squares_along(squares, square, step, side))
    return found


# The board has to have one king of this side.
def in_check(squares, side):
    king_square = squares.index(KING + SECOND * side)
    for square, piece in enumerate(squares):
        if piece != 0 and side_of(piece) != side and king_square in squares_in_reach(squares, square):
            return True
    return False
