"""What the tests share: texts as bytes, positions put together, moves by their names, lists that refuse to be
changed, and the rules once more, written as plainly and slowly as can be, to hold the program's answers against."""

from komadai.board import sg_moves, sg_play, sg_set, sg_text

OPENING = "lnsgkgsnl/1r5b1/ppppppppp/9/9/9/PPPPPPPPP/1B5R1/LNSGKGSNL b - 1"

# Positions of played games and made up ones, each as it is told.
ORDINARY = (
    OPENING,
    "lnsgkgsnl/1r5b1/ppppppppp/9/9/2P6/PP1PPPPPP/1B5R1/LNSGKGSNL w - 2",
    "lnsgkgsnl/1r5+B1/pppppp1pp/6p2/9/2P6/PP1PPPPPP/7R1/LNSGKGSNL w B 4",
    "8l/1l+R2P3/p2pBG1pp/kps1p4/Nn1P2G2/P1P1P2PP/1PS6/1KSG3+r1/LN2+p3L w Sbgn3p 124",
    "l6nl/5+P1gk/2np1S3/p1p4Pp/3P2Sp1/1PPb2P1P/P5GS1/R8/LN4bKL w RGgsn5p 1",
    "R8/2K1S1SSk/4B4/9/9/9/9/9/1L1L1L3 b RBGSNLP3g3n17p 1",
    "4k4/9/9/9/9/9/9/9/4K4 b 2R2B4G4S4N4L18P 1",
    "4k4/9/9/9/9/9/9/9/4K4 w 2r2b4g4s4n4l18p 65534",
    "4k4/9/9/9/9/9/9/9/4K4 b RB2G2S2N2L9Prb2g2s2n2l9p 77",
    "k8/9/+P+L+N+S1+B+R2/9/9/9/+p+l+n+s1+b+r2/9/8K b - 9",
    "k8/9/+P+L+N+S1+B+R2/9/9/9/+p+l+n+s1+b+r2/9/8K w - 10",
)

# Positions with checks, pins, promotions, hands and mates on both sides, to be held against all that can be tried.
TANGLED = ORDINARY + (
    "4r3k/9/9/9/9/9/5n3/6G2/4K4 b P 1",
    "4k4/9/3GPG3/9/9/9/3gpg3/9/4K4 w RB2S2N2L8Prb2s2n2l8p 5",
    "lnsgk1snl/1r4gb1/p1pppp2p/6pR1/1p7/2P6/PPSPPPP1P/1BG6/LN2KGSNL b Pp 21",
    "lr5nl/3g1kg2/2n1pp1pp/p1pps1p2/1p5P1/P1PPS1P2/1P2PPN1P/2GK1G3/LN5RL w BSbs 48",
    "l2+R4l/4gk3/p1+P1ppn1p/5sp2/3p5/2P1PSP1P/PP1P1P3/1+b1SG1K2/L+r3G1NL b BNgsn3p 71",
    "3+R3nl/4+Pk1g1/p2p1Sppp/2p6/5P1P1/2P1p1P2/PP1P2N1P/1SG1K4/L+r+b4+bL w GSPgs2nlp 91",
    "1+P1g1k3/2G6/1N1SpN3/3P1p3/9/3p1P3/3n1sP2/6g2/3K1G1+p1 w RBLPrbsn2l3p 100",
)

# How many ways of one, two and three moves there are, as many other programs have counted them.
KNOWN_WAYS = {
    OPENING: (30, 900, 25470),
    "l6nl/5+P1gk/2np1S3/p1p4Pp/3P2Sp1/1PPb2P1P/P5GS1/R8/LN4bKL w RGgsn5p 1": (207, 28684, 4809015),
    "R8/2K1S1SSk/4B4/9/9/9/9/9/1L1L1L3 b RBGSNLP3g3n17p 1": (593, 105677, 53393368),
}

# The first player has no move but the pawn from the hand to 1e, and that would give mate: it isn't legal. The rook,
# pinned by the bishop, keeps that pawn.
ONLY_A_MATING_PAWN = "+PGGGGSSSS/PPPPPPPPL/7ll/5b1lk/4R4/8n/n7+p/8r/K7+p b P 1"

# The same, but that the piece on 2d can take the pawn: so the pawn is legal, then is taken, then there's no move.
ONLY_A_CHECKING_PAWN = "+PGGGGSSSS/PPPPPPPPL/7ll/5b1+pk/4R4/8n/n7+p/8r/K7+p b P 1"

# The same, but that the pawn comes to 1e from the board: that is legal, and mate.
ONLY_A_PAWN_ON_THE_BOARD = "+PGGGGSSSS/PPPPPPPPL/7ll/5b1lk/4R4/8P/n7+p/8r/K7+p b - 1"

MATED = (
    "8k/9/9/9/9/9/4l4/4g4/4K4 b - 1",
    "8k/9/9/9/9/9/4l4/4g4/4K4 b RBGSNLP 1",
    "7nk/8P/7G1/9/9/9/9/9/K8 w - 2",
    "7nk/8P/7G1/9/9/9/9/9/K8 w rbgsnlp 2",
    "k8/1+R7/1P7/9/9/9/9/9/8K w b 7",
    "4k4/4G4/4G4/9/9/9/9/9/4K4 w 2r2b 30",
)

# Not in check, and nothing that could go.
STUCK = (
    "8k/9/9/9/9/9/1s7/2g6/K8 b - 1",
    "8k/7P1/7S1/9/9/9/9/9/K8 w - 2",
    "8k/6G2/7S1/9/9/9/9/9/K8 w RBP 2",
    ONLY_A_MATING_PAWN,
)


# A position for each thing that keeps it from being, and some more.
def positions_that_cannot_be(number):
    return (
        [0] * 96 + [number],
        [255] * 96 + [number],
        told(OPENING)[0:95] + [2, number],
        told(OPENING)[0:95] + [255, number],
        put_together({4: 24}, number=number),
        put_together({76: 8}, turn=1, number=number),
        put_together({4: 24, 76: 8, 78: 8}, number=number),
        put_together({4: 24, 76: 8, 40: 13}, number=number),
        put_together({4: 24, 76: 8, 40: 32}, number=number),
        put_together({4: 24, 76: 8}, {0: 19}, number=number),
        put_together({4: 24, 76: 8}, {5: 1, 12: 2}, number=number),
        put_together({4: 24, 76: 8, 38: 15}, {6: 1, 13: 1}, number=number),
        put_together({4: 24, 76: 8, 39: 1, 48: 1}, number=number),
        put_together({4: 24, 76: 8, 1: 1}, number=number),
        put_together({4: 24, 76: 8, 79: 18}, number=number),
        put_together({4: 24, 76: 8, 64: 19}, number=number),
        put_together({4: 24, 13: 7, 76: 8}, number=number),
        put_together({4: 24, 67: 23, 76: 8}, turn=1, number=number),
        put_together({40: 24, 41: 8}, number=number),
    )


def codes(text):
    return [ord(sign) for sign in text]


def answer_to(text):
    return sg_set(codes(text))


# The text that sg_text tells, or the refusal.
def text_from(position):
    answer = sg_text(position)
    if answer[0] < 0:
        return answer
    assert answer[0] == len(answer) - 1
    return "".join(chr(code) for code in answer[1:])


# board: square to piece; hands: place (0 to 13) to how many.
def put_together(board, hands=None, turn=0, number=1):
    position = [0] * 97
    for square, piece in board.items():
        position[square] = piece
    for place, amount in (hands or {}).items():
        position[81 + place] = amount
    position[95] = turn
    position[96] = number
    return position


# The position that a text tells.
def told(text):
    answer = answer_to(text)
    assert answer[0] == 0, (text, answer)
    return answer[1:]


# The number of a move that is named as the document does it: 7g7f, 2h2b+, P*5e.
def move_named(name):
    target = square_named(name[2:4])
    if name[1] == "*":
        return 128 * (81 + "PLNSGBR".index(name[0])) + target
    return 128 * square_named(name[0:2]) + target + (16384 if name[4:] == "+" else 0)


def square_named(name):
    return 9 * "abcdefghi".index(name[1]) + 9 - int(name[0])


def name_of_square(square):
    return str(9 - square % 9) + "abcdefghi"[square // 9]


def name_of(move):
    source = move // 128 % 128
    target = name_of_square(move % 128)
    if source > 80:
        return "PLNSGBR"[source - 81] + "*" + target
    return name_of_square(source) + target + ("+" if move >= 16384 else "")


# The names of all legal moves, or of those that begin so.
def names_of_moves(text, start=""):
    answer = sg_moves(4294967295, told(text))
    assert answer[0] == len(answer) - 1, answer
    return sorted(name for name in map(name_of, answer[1:]) if name.startswith(start))


# The board turned round, and the players changed.
def turned(position):
    squares = [piece if piece == 0 else (piece + 16) % 32 for piece in reversed(position[0:81])]
    return squares + position[88:95] + position[81:88] + [1 - position[95], position[96]]


def turned_move(move):
    source = move // 128 % 128
    if source <= 80:
        source = 80 - source
    return move // 16384 * 16384 + 128 * source + 80 - move % 128


# Whether a piece alone on the board goes so many rows ahead and columns aside.
def goes(kind, ahead, aside):
    aside = abs(aside)
    beside = max(abs(ahead), aside) == 1
    gold = beside and not (ahead == -1 and aside == 1)
    aslant = abs(ahead) == aside != 0
    straight = (ahead == 0) != (aside == 0)
    ways = {
        1: ahead == 1 and aside == 0,
        2: ahead >= 1 and aside == 0,
        3: ahead == 2 and aside == 1,
        4: beside and (ahead == 1 or ahead == -1 and aside == 1),
        5: gold,
        6: aslant,
        7: straight,
        8: beside,
        9: gold, 10: gold, 11: gold, 12: gold,
        14: aslant or beside,
        15: straight or beside,
    }
    return ways[kind]


def row_and_column(square):
    return square // 9, square % 9


def apart(one, other):
    row, column = row_and_column(one)
    other_row, other_column = row_and_column(other)
    return max(abs(row - other_row), abs(column - other_column))


def between(square, one, other):
    row, column = row_and_column(square)
    first_row, first_column = row_and_column(one)
    last_row, last_column = row_and_column(other)
    crossed = (row - first_row) * (last_column - first_column) - (column - first_column) * (last_row - first_row)
    inside = min(first_row, last_row) <= row <= max(first_row, last_row)
    inside = inside and min(first_column, last_column) <= column <= max(first_column, last_column)
    return crossed == 0 and inside


def stuck(kind, ahead_rows):
    return ahead_rows < {1: 1, 2: 1, 3: 2}.get(kind, 0)


# Whether the piece on one square goes to the other, whatever stands there.
def reaches(squares, square, target):
    piece = squares[square]
    sign = 1 if piece >= 16 else -1
    ahead = sign * (target // 9 - square // 9)
    if target == square or not goes(piece % 16, ahead, target % 9 - square % 9):
        return False
    if piece % 16 == 3:
        return True
    return not any(squares[place] for place in range(81)
                   if place not in (square, target) and squares[place] and between(place, square, target))


def stands_in_check(squares, side):
    king = squares.index(8 + 16 * side)
    return any(piece and piece // 16 != side and reaches(squares, square, king) for square, piece in enumerate(squares))


def rows_to_the_end(square, side):
    return square // 9 if side == 0 else 8 - square // 9


# What the position becomes, on the board and in the hands, by a move that goes.
def done(move, position):
    after = list(position)
    side = after[95]
    source, target = move // 128 % 128, move % 128
    if source > 80:
        after[81 + 7 * side + source - 81] -= 1
        after[target] = source - 80 + 16 * side
    else:
        taken = after[target] % 8
        if taken:
            after[81 + 7 * side + taken - 1] += 1
        after[target] = after[source] + 8 * (move // 16384)
        after[source] = 0
    after[95] = 1 - side
    after[96] += 1
    return after


# Every move that goes, were there no king.
def moves_that_go(position):
    side = position[95]
    moves = []
    for square, piece in enumerate(position[0:81]):
        if piece and piece // 16 == side:
            for target in range(81):
                own = position[target] and position[target] // 16 == side
                if not own and reaches(position[0:81], square, target):
                    move = 128 * square + target
                    if not stuck(piece % 16, rows_to_the_end(target, side)):
                        moves.append(move)
                    near_the_end = min(rows_to_the_end(square, side), rows_to_the_end(target, side)) < 3
                    if piece % 16 in (1, 2, 3, 4, 6, 7) and near_the_end:
                        moves.append(move + 16384)
    for kind in range(1, 8):
        if position[80 + 7 * side + kind]:
            for target in range(81):
                two_pawns = kind == 1 and any(position[place] == 1 + 16 * side for place in range(target % 9, 81, 9))
                if not position[target] and not two_pawns and not stuck(kind, rows_to_the_end(target, side)):
                    moves.append(128 * (80 + kind) + target)
    return moves


def moves_out_of_check(position):
    side = position[95]
    return [move for move in moves_that_go(position) if not stands_in_check(done(move, position)[0:81], side)]


# The legal moves, found by trying everything.
def moves_by_trying(position):
    moves = []
    for move in moves_out_of_check(position):
        after = done(move, position)
        pawn_from_hand = move // 128 % 128 == 81
        if not (pawn_from_hand and stands_in_check(after[0:81], after[95]) and not moves_out_of_check(after)):
            moves.append(move)
    return sorted(moves)


# How many ways there are, found by trying everything.
def ways_by_trying(n, position, moves_of=moves_by_trying):
    if n == 0:
        return 1
    return sum(ways_by_trying(n - 1, done(move, position), moves_of) for move in moves_of(position))


def state_by_trying(position):
    return stands_in_check(position[0:81], position[95]) + 2 * (not moves_by_trying(position))


# How many ways there are, asked move by move of the calls that the program has for it.
def ways_by_playing(n, position):
    answer = sg_moves(4294967295, position)
    if n == 1:
        return answer[0]
    return sum(ways_by_playing(n - 1, sg_play(move, position)[1:]) for move in answer[1:])


# A position after each move of a game whose moves are drawn by the seed, always in the same way.
def game_played_on(seed, most):
    position = told(OPENING)
    chance = seed
    positions = [position]
    for turn in range(most):
        moves = sg_moves(4294967295, position)[1:]
        if not moves:
            break
        chance = (chance * 1103515245 + 12345) % 2147483648
        position = done(moves[chance // 65536 % len(moves)], position)
        positions.append(position)
    return positions


class Unchangeable(list):
    """A list that fails the test as soon as it is changed, be it for a while only."""

    def refuse(self, *args, **kwargs):
        raise AssertionError("what was handed in is changed")

    __setitem__ = refuse
    __delitem__ = refuse
    __iadd__ = refuse
    __imul__ = refuse
    append = refuse
    clear = refuse
    extend = refuse
    insert = refuse
    pop = refuse
    remove = refuse
    reverse = refuse
    sort = refuse
