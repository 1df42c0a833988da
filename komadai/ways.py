"""How many ways a game goes on from a position."""

from komadai.moves import legal_moves
from komadai.play import position_after


# How many ways there are of n legal moves one after another.
def count_ways(n, position):
    if n == 0:
        return 1
    moves = legal_moves(position)
    # Each last move ends one way, so none of them has to be done.
    if n == 1:
        return len(moves)
    return sum([count_ways(n - 1, position_after(move, position)) for move in moves])
