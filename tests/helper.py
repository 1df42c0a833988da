"""What the tests share: texts as bytes, positions put together, moves by their names, lists that refuse to be
changed, and the rules once more, written as plainly and slowly as can be, to hold the program's answers against."""

from komadai.board import sg_moves, sg_set, sg_text

OPENING = "lnsgkgsnl/1r5b1/ppppppppp/9/9/9/PPPPPPPPP/1B5R1/LNSGKGSNL b - 1"

# Positions of played games and made up ones, each as it is told.
ORDINARY = (
    OPENING,
    "lnsgkgsnl/1r5b1/ppppppppp/9/9/2P6/PP1PPPPPP/1B5R1/LNSGKGSNL w - 2",
    "lnsgkgsnl/1r5+B1/pppppp1pp/6p2/9/2P6/PP1PPPPPP/7R1/LNSGKGSNL w B 4",
    "8l/1l+R2P3/p2pBG1pp/kps1p4/Nn1P2G2/P1P1P2PP/1PS6/1KSG3+r1/LN2+p3L w Sbgn3p 124",
    "l6nl/5+P1gk/2np1S3/p1p4Pp/3P2Sp1/1PPb2P1P/P5GS1/R8/LN4bKL w RGgsn5p 1",
    "R8/2K1S1SSk/4B4/9/9/9/9/9/1L1L1L3 b RBGSNLP3g3n17p 1",
    "4k4/9/9/9/9/9/9/9/4K4 b 2R2B4G4S4N4L18P 1",
    "4k4/9/9/9/9/9/9/9/4K4 w 2r2b4g4s4n4l18p 65534",
    "4k4/9/9/9/9/9/9/9/4K4 b RB2G2S2N2L9Prb2g2s2n2l9p 77",
    "k8/9/+P+L+N+S1+B+R2/9/9/9/+p+l+n+s1+b+r2/9/8K b - 9",
    "k8/9/+P+L+N+S1+B+R2/9/9/9/+p+l+n+s1+b+r2/9/8K w - 10",
)


def codes(text):
    return [ord(sign) for sign in text]


def answer_to(text):
    return sg_set(codes(text))


# The text that sg_text tells, or the refusal.
def text_from(position):
    answer = sg_text(position)
    if answer[0] < 0:
        return answer
    assert answer[0] == len(answer) - 1
    return "".join(chr(code) for code in answer[1:])


# board: square to piece; hands: place (0 to 13) to how many.
def put_together(board, hands=None, turn=0, number=1):
    position = [0] * 97
    for square, piece in board.items():
        position[square] = piece
    for place, amount in (hands or {}).items():
        position[81 + place] = amount
    position[95] = turn
    position[96] = number
    return position


# The position that a text tells.
def told(text):
    answer = answer_to(text)
    assert answer[0] == 0, (text, answer)
    return answer[1:]


# The number of a move that is named as the document does it: 7g7f, 2h2b+, P*5e.
def move_named(name):
    target = square_named(name[2:4])
    if name[1] == "*":
        return 128 * (81 + "PLNSGBR".index(name[0])) + target
    return 128 * square_named(name[0:2]) + target + (16384 if name[4:] == "+" else 0)


def square_named(name):
    return 9 * "abcdefghi".index(name[1]) + 9 - int(name[0])


def name_of_square(square):
    return str(9 - square % 9) + "abcdefghi"[square // 9]


def name_of(move):
    source = move // 128 % 128
    target = name_of_square(move % 128)
    if source > 80:
        return "PLNSGBR"[source - 81] + "*" + target
    return name_of_square(source) + target + ("+" if move >= 16384 else "")


# The names of all legal moves, or of those that begin so.
def names_of_moves(text, start=""):
    answer = sg_moves(4294967295, told(text))
    assert answer[0] == len(answer) - 1, answer
    return sorted(name for name in map(name_of, answer[1:]) if name.startswith(start))


# The board turned round, and the players changed.
def turned(position):
    squares = [piece if piece == 0 else (piece + 16) % 32 for piece in reversed(position[0:81])]
    return squares + position[88:95] + position[81:88] + [1 - position[95], position[96]]


def turned_move(move):
    source = move // 128 % 128
    if source <= 80:
        source = 80 - source
    return move // 16384 * 16384 + 128 * source + 80 - move % 128


# Whether a piece alone on the board goes so many rows ahead and columns aside.
def goes(kind, ahead, aside):
    aside = abs(aside)
    beside = max(abs(ahead), aside) == 1
    gold = beside and not (ahead == -1 and aside == 1)
    aslant = abs(ahead) == aside != 0
    straight = (ahead == 0) != (aside == 0)
    ways = {
        1: ahead == 1 and aside == 0,
        2: ahead >= 1 and aside == 0,
        3: ahead == 2 and aside == 1,
        4: beside and (ahead == 1 or ahead == -1 and aside == 1),
        5: gold,
        6: aslant,
        7: straight,
        8: beside,
        9: gold, 10: gold, 11: gold, 12: gold,
        14: aslant or beside,
        15: straight or beside,
    }
    return ways[kind]


def row_and_column(square):
    return square // 9, square % 9


def apart(one, other):
    row, column = row_and_column(one)
    other_row, other_column = row_and_column(other)
    return max(abs(row - other_row), abs(column - other_column))


def between(square, one, other):
    row, column = row_and_column(square)
    first_row, first_column = row_and_column(one)
    last_row, last_column = row_and_column(other)
    crossed = (row - first_row) * (last_column - first_column) - (column - first_column) * (last_row - first_row)
    inside = min(first_row, last_row) <= row <= max(first_row, last_row)
    inside = inside and min(first_column, last_column) <= column <= max(first_column, last_column)
    return crossed == 0 and inside


def stuck(kind, ahead_rows):
    return ahead_rows < {1: 1, 2: 1, 3: 2}.get(kind, 0)


# Whether the piece on one square goes to the other, whatever stands there.
def reaches(squares, square, target):
    piece = squares[square]
    sign = 1 if piece >= 16 else -1
    ahead = sign * (target // 9 - square // 9)
    if target == square or not goes(piece % 16, ahead, target % 9 - square % 9):
        return False
    if piece % 16 == 3:
        return True
    return not any(squares[place] for place in range(81)
                   if place not in (square, target) and squares[place] and between(place, square, target))


def stands_in_check(squares, side):
    king = squares.index(8 + 16 * side)
    return any(piece and piece // 16 != side and reaches(squares, square, king) for square, piece in enumerate(squares))


def rows_to_the_end(square, side):
    return square // 9 if side == 0 else 8 - square // 9


# What the position becomes, on the board and in the hands, by a move that goes.
def done(move, position):
    after = list(position)
    side = after[95]
    source, target = move // 128 % 128, move % 128
    if source > 80:
        after[81 + 7 * side + source - 81] -= 1
        after[target] = source - 80 + 16 * side
    else:
        taken = after[target] % 8
        if taken:
            after[81 + 7 * side + taken - 1] += 1
        after[target] = after[source] + 8 * (move // 16384)
        after[source] = 0
    after[95] = 1 - side
    after[96] += 1
    return after


# Every move that goes, were there no king.
def moves_that_go(position):
    side = position[95]
    moves = []
    for square, piece in enumerate(position[0:81]):
        if piece and piece // 16 == side:
            for target in range(81):
                own = position[target] and position[target] // 16 == side
                if not own and reaches(position[0:81], square, target):
                    move = 128 * square + target
                    if not stuck(piece % 16, rows_to_the_end(target, side)):
                        moves.append(move)
                    near_the_end = min(rows_to_the_end(square, side), rows_to_the_end(target, side)) < 3
                    if piece % 16 in (1, 2, 3, 4, 6, 7) and near_the_end:
                        moves.append(move + 16384)
    for kind in range(1, 8):
        if position[80 + 7 * side + kind]:
            for target in range(81):
                two_pawns = kind == 1 and any(position[place] == 1 + 16 * side for place in range(target % 9, 81, 9))
                if not position[target] and not two_pawns and not stuck(kind, rows_to_the_end(target, side)):
                    moves.append(128 * (80 + kind) + target)
    return moves


def moves_out_of_check(position):
    side = position[95]
    return [move for move in moves_that_go(position) if not stands_in_check(done(move, position)[0:81], side)]


# The legal moves, found by trying everything.
def moves_by_trying(position):
    moves = []
    for move in moves_out_of_check(position):
        after = done(move, position)
        pawn_from_hand = move // 128 % 128 == 81
        if not (pawn_from_hand and stands_in_check(after[0:81], after[95]) and not moves_out_of_check(after)):
            moves.append(move)
    return sorted(moves)


class Unchangeable(list):
    """A list that fails the test as soon as it is changed, be it for a while only."""

    def refuse(self, *args, **kwargs):
        raise AssertionError("what was handed in is changed")

    __setitem__ = refuse
    __delitem__ = refuse
    __iadd__ = refuse
    __imul__ = refuse
    append = refuse
    clear = refuse
    extend = refuse
    insert = refuse
    pop = refuse
    remove = refuse
    reverse = refuse
    sort = refuse
