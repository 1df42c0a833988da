"""Where the pieces on a board of 81 squares can go, and whose king stands in check."""

from komadai.pieces import KING, KNIGHT, SECOND, belongs_to, far_steps, kind_of, near_steps, side_of


# Rows left between a square and its player's last row.
def rows_ahead(square, side):
    row = square // 9
    return row if side == 0 else 8 - row


# The square that a step leads to, or -1 if that lies outside the board.
def square_after(square, step, side):
    ahead = step[0] if side == 1 else -step[0]
    row = square // 9 + ahead
    column = square % 9 + step[1]
    if 0 <= row < 9 and 0 <= column < 9:
        return row * 9 + column
    return -1


# The squares along one way, up to the first piece and with it, whosever it is.
def squares_along(squares, square, step, side):
    found = []
    target = square_after(square, step, side)
    while target >= 0:
        found.append(target)
        if squares[target] != 0:
            break
        target = square_after(target, step, side)
    return found


def squares_in_reach(squares, square):
    side = side_of(squares[square])
    kind = kind_of(squares[square])
    found = []
    for step in near_steps(kind):
        target = square_after(square, step, side)
        if target >= 0:
            found.append(target)
    for step in far_steps(kind):
        found.extend(squares_along(squares, square, step, side))
    return found


# The board has to have one king of this side.
def in_check(squares, side):
    king_square = squares.index(KING + SECOND * side)
    return len(checking_lines(squares, king_square, side)) > 0


# From the king's square to each piece that gives it check: the squares between, then that piece's.
def checking_lines(squares, king_square, side):
    lines = knight_lines(squares, king_square, side)
    for step in near_steps(KING):
        line = squares_along(squares, king_square, step, side)
        if ends_in_threat(squares, line, step, side):
            lines.append(line)
    return lines


# A knight gives check from where one of the king's own side could jump to from the king's square.
def knight_lines(squares, king_square, side):
    lines = []
    for step in near_steps(KNIGHT):
        square = square_after(king_square, step, side)
        if square >= 0 and squares[square] == KNIGHT + SECOND * (1 - side):
            lines.append([square])
    return lines


# Whether the other player's piece at the line's end goes back along it, as far as the line is long.
def ends_in_threat(squares, line, step, side):
    if len(line) == 0 or not belongs_to(squares[line[-1]], 1 - side):
        return False
    kind = kind_of(squares[line[-1]])
    # The players face one another: the way back is as much ahead for the one as the way to it for the other.
    back = (step[0], -step[1])
    return back in far_steps(kind) or (len(line) == 1 and back in near_steps(kind))


# Each piece that alone keeps its king from check, with all squares from the king to the threat.
def pinning_lines(squares, king_square, side):
    lines = {}
    for step in near_steps(KING):
        line = squares_along(squares, king_square, step, side)
        if len(line) > 0 and belongs_to(squares[line[-1]], side):
            pinned = line[-1]
            line.extend(squares_along(squares, pinned, step, side))
            if line[-1] != pinned and ends_in_threat(squares, line, step, side):
                lines[pinned] = line
    return lines
