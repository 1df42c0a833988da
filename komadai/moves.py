"""Every legal move of a position that can be."""

from komadai.pieces import (
    CAN_PROMOTE, HAND_KINDS, KING, KNIGHT, LANCE, PAWN, SECOND, belongs_to, kind_of, near_steps, side_of,
)
from komadai.places import HANDS, TURN, hand_place, squares_of
from komadai.play import FROM_HAND, PROMOTES, move_number, position_after
from komadai.reach import checking_lines, in_check, pinning_lines, rows_ahead, square_after, squares_in_reach
from komadai.rules import never_moves


def legal_moves(position):
    moves = safe_moves(position)
    pawn = checking_pawn(position)
    if pawn in moves and nothing_helps(position_after(pawn, position)):
        moves.remove(pawn)
    return sorted(moves)


# The one move by which a pawn from the hand can give check: to right before the other's king.
# Where that square would lie outside the board, this is a number that no move has.
def checking_pawn(position):
    other = 1 - position[TURN]
    king_square = squares_of(position).index(KING + SECOND * other)
    return move_number(FROM_HAND + PAWN, square_after(king_square, near_steps(PAWN)[0], other))


# Whether the one to move, whom a pawn gives check, can't end it. Pawns from the hand that would
# give mate count as help, so the answers asked for are the safe moves, not the legal ones.
def nothing_helps(position):
    squares = squares_of(position)
    side = position[TURN]
    # Most often the king itself can go, and that is quickly told.
    if len(king_moves(squares, squares.index(KING + SECOND * side), side)) > 0:
        return False
    return len(safe_moves(position)) == 0


# All moves that don't leave their own king in check, mate by a pawn from the hand among them.
def safe_moves(position):
    squares = squares_of(position)
    side = position[TURN]
    king_square = squares.index(KING + SECOND * side)
    helping = squares_that_help(checking_lines(squares, king_square, side))
    pins = pinning_lines(squares, king_square, side)
    moves = king_moves(squares, king_square, side)
    for square, piece in enumerate(squares):
        if belongs_to(piece, side) and square != king_square:
            for target in piece_targets(squares, square, helping, pins):
                moves.extend(moves_between(piece, square, target))
    moves.extend(hand_moves(position, squares, helping))
    return moves


# Where another piece than the king has to go to end every check: between, or onto the one that
# gives it. Against two at once only the king itself can do something.
def squares_that_help(checks):
    if len(checks) == 0:
        return all_true(list(range(81)))
    if len(checks) == 1:
        return all_true(checks[0])
    return {}


def all_true(numbers):
    found = {}
    for number in numbers:
        found[number] = True
    return found


def king_moves(squares, king_square, side):
    moves = []
    for target in squares_in_reach(squares, king_square):
        if not belongs_to(squares[target], side):
            after = list(squares)
            after[target] = after[king_square]
            after[king_square] = 0
            if not in_check(after, side):
                moves.append(move_number(king_square, target))
    return moves


# Where a piece other than the king can go. One that is pinned stays on its pin's line.
def piece_targets(squares, square, helping, pins):
    side = side_of(squares[square])
    reached = squares_in_reach(squares, square)
    targets = [target for target in reached if target in helping and not belongs_to(squares[target], side)]
    if square in pins:
        return [target for target in targets if target in pins[square]]
    return targets


def moves_between(piece, square, target):
    move = move_number(square, target)
    moves = []
    if not never_moves(piece, target):
        moves.append(move)
    if may_promote(piece, square, target):
        moves.append(move + PROMOTES)
    return moves


def may_promote(piece, square, target):
    side = side_of(piece)
    return kind_of(piece) in CAN_PROMOTE and min(rows_ahead(square, side), rows_ahead(target, side)) < 3


def hand_moves(position, squares, helping):
    side = position[TURN]
    free = [square for square in helping if squares[square] == 0]
    moves = []
    for kind in HAND_KINDS:
        if position[HANDS + hand_place(kind, side)] > 0:
            source = FROM_HAND + kind
            moves.extend([move_number(source, target) for target in open_squares(squares, free, kind + SECOND * side)])
    return moves


# Those of the free squares that the piece may come to from the hand.
def open_squares(squares, free, piece):
    # Only these could ever be put to where they never move.
    if kind_of(piece) not in (PAWN, LANCE, KNIGHT):
        return free
    found = [square for square in free if not never_moves(piece, square)]
    if kind_of(piece) == PAWN:
        return [square for square in found if piece not in squares[square % 9:81:9]]
    return found
