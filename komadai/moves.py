"""Every legal move of a position that can be."""

from komadai.pieces import CAN_PROMOTE, HAND_KINDS, KING, PAWN, SECOND, belongs_to, kind_of, near_steps, side_of
from komadai.places import HANDS, TURN, hand_place, squares_of
from komadai.play import FROM_HAND, PROMOTES, move_number, position_after, source_of, target_of
from komadai.reach import checking_lines, in_check, pinning_lines, rows_ahead, square_after, squares_in_reach
from komadai.rules import never_moves


def legal_moves(position):
    return sorted([move for move in safe_moves(position) if not is_mate_by_pawn(move, position)])


# Whether a pawn from the hand gives check, and nothing helps against it. Pawns from the hand that
# would give mate count as help, so the answers asked for are the safe moves, not the legal ones.
def is_mate_by_pawn(move, position):
    if source_of(move) != FROM_HAND + PAWN:
        return False
    side = position[TURN]
    ahead = square_after(target_of(move), near_steps(PAWN)[0], side)
    if position[ahead] != KING + SECOND * (1 - side):
        return False
    return len(safe_moves(position_after(move, position))) == 0


# All moves that don't leave their own king in check, mate by a pawn from the hand among them.
def safe_moves(position):
    squares = squares_of(position)
    side = position[TURN]
    king_square = squares.index(KING + SECOND * side)
    helping = squares_that_help(checking_lines(squares, king_square, side))
    pins = pinning_lines(squares, king_square, side)
    moves = king_moves(squares, king_square, side)
    for square, piece in enumerate(squares):
        if belongs_to(piece, side) and square != king_square:
            for target in piece_targets(squares, square, helping, pins):
                moves.extend(moves_between(piece, square, target))
    moves.extend(hand_moves(position, squares, helping))
    return moves


# Where another piece than the king has to go to end every check: between, or onto the one that
# gives it. Against two at once only the king itself can do something.
def squares_that_help(checks):
    if len(checks) == 0:
        return all_true(list(range(81)))
    if len(checks) == 1:
        return all_true(checks[0])
    return {}


def all_true(numbers):
    found = {}
    for number in numbers:
        found[number] = True
    return found


def king_moves(squares, king_square, side):
    moves = []
    for target in squares_in_reach(squares, king_square):
        if not belongs_to(squares[target], side):
            after = list(squares)
            after[target] = after[king_square]
            after[king_square] = 0
            if not in_check(after, side):
                moves.append(move_number(king_square, target))
    return moves


# Where a piece other than the king can go. One that is pinned stays on its pin's line.
def piece_targets(squares, square, helping, pins):
    side = side_of(squares[square])
    reached = squares_in_reach(squares, square)
    targets = [target for target in reached if target in helping and not belongs_to(squares[target], side)]
    if square in pins:
        return [target for target in targets if target in pins[square]]
    return targets


def moves_between(piece, square, target):
    move = move_number(square, target)
    moves = []
    if not never_moves(piece, target):
        moves.append(move)
    if may_promote(piece, square, target):
        moves.append(move + PROMOTES)
    return moves


def may_promote(piece, square, target):
    side = side_of(piece)
    return kind_of(piece) in CAN_PROMOTE and min(rows_ahead(square, side), rows_ahead(target, side)) < 3


def hand_moves(position, squares, helping):
    side = position[TURN]
    free = [square for square in helping if squares[square] == 0]
    moves = []
    for kind in HAND_KINDS:
        if position[HANDS + hand_place(kind, side)] > 0:
            piece = kind + SECOND * side
            source = FROM_HAND + kind
            moves.extend([move_number(source, target) for target in free if may_be_put(squares, piece, target)])
    return moves


# Whether the piece may come from the hand to this empty square.
def may_be_put(squares, piece, target):
    if kind_of(piece) == PAWN and piece in squares[target % 9:81:9]:
        return False
    return not never_moves(piece, target)
