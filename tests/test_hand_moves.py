"""Point 3, sg_moves: pieces from the hand, and the rule against mate by a pawn from the hand."""

import unittest

from komadai.board import sg_moves, sg_play
from tests.helper import move_named, moves_by_trying, names_of_moves, put_together, told, turned

ALL = 4294967295
LETTERS = "PLNSGBR"
KINGS = {4: 24, 76: 8}


def targets_from_hand(position, kind):
    return [move % 128 for move in sg_moves(ALL, position)[1:] if move // 128 == 80 + kind]


class FromTheHand(unittest.TestCase):
    # Rows that the first player's kinds can't be put to, counted from the top.
    CLOSED_ROWS = {1: 1, 2: 1, 3: 2, 4: 0, 5: 0, 6: 0, 7: 0}

    def test_each_kind_to_every_empty_square_where_it_could_move(self):
        for kind, closed in self.CLOSED_ROWS.items():
            expected = [square for square in range(81) if square not in KINGS and square // 9 >= closed]
            self.assertEqual(targets_from_hand(put_together(KINGS, {kind - 1: 1}), kind), expected, kind)
            expected = [square for square in range(81) if square not in KINGS and 8 - square // 9 >= closed]
            self.assertEqual(targets_from_hand(put_together(KINGS, {kind + 6: 1}, turn=1), kind), expected, kind)

    def test_how_many_there_are_by_hand(self):
        # 79 empty squares; pawn and lance not to the first row's 8, the knight not to 17; the king goes to 5.
        answer = sg_moves(ALL, told("4k4/9/9/9/9/9/9/9/4K4 b 2R2B4G4S4N4L18P 1"))
        self.assertEqual(answer[0], 71 + 71 + 62 + 4 * 79 + 5)

    def test_a_number_is_put_together_as_told(self):
        for kind in range(1, 8):
            answer = sg_moves(ALL, put_together(KINGS, {kind - 1: 1}))
            self.assertIn(128 * (80 + kind) + 40, answer)
            self.assertIn(move_named(LETTERS[kind - 1] + "*5e"), answer)

    def test_never_promoted(self):
        hands = {place: 1 for place in range(14)}
        for turn in (0, 1):
            answer = sg_moves(ALL, put_together(KINGS, hands, turn))
            self.assertEqual([move for move in answer[1:] if move // 128 % 128 > 80 and move >= 16384], [])

    def test_only_what_lies_in_the_own_hand(self):
        for place in range(14):
            for turn in (0, 1):
                answer = sg_moves(ALL, put_together(KINGS, {place: 1}, turn))
                kinds = {move // 128 % 128 - 80 for move in answer[1:] if move // 128 % 128 > 80}
                self.assertEqual(kinds, {place % 7 + 1} if place // 7 == turn else set(), (place, turn))

    def test_several_of_a_kind_are_one_move_each(self):
        for kind, most in ((1, 18), (2, 4), (3, 4), (4, 4), (5, 4), (6, 2), (7, 2)):
            one = sg_moves(ALL, put_together(KINGS, {kind - 1: 1}))
            self.assertEqual(sg_moves(ALL, put_together(KINGS, {kind - 1: most})), one)

    def test_not_onto_a_piece(self):
        board = {0: 24, 80: 8, 40: 5, 41: 21, 49: 12, 50: 28}
        for kind in range(1, 8):
            targets = targets_from_hand(put_together(board, {kind - 1: 1}), kind)
            self.assertEqual([square for square in targets if square in board], [], kind)
            self.assertIn(39, targets)

    def test_a_full_column(self):
        text = "4k4/9/9/9/9/9/PPPPPPPP1/9/4K4 b P 1"
        self.assertEqual(names_of_moves(text, "P*"), [f"P*1{row}" for row in "bcdefghi"])
        text = "4k4/9/9/9/9/9/PPPPPPPPP/9/4K4 b P 1"
        self.assertEqual(names_of_moves(text, "P*"), [])
        text = "4k4/9/1pppppppp/9/9/9/9/9/4K4 w p 1"
        self.assertEqual(names_of_moves(text, "P*"), [f"P*9{row}" for row in "abcdefgh"])

    # Only one's own unpromoted pawn closes a column, wherever it stands there.
    def test_two_pawns_in_a_column(self):
        for row in range(1, 8):
            for pawn, closes in ((1, True), (9, False), (17, False), (25, False), (2, False), (4, False)):
                board = {4: 24, 76: 8, row * 9 + 2: pawn}
                targets = targets_from_hand(put_together(board, {0: 1}), 1)
                in_column = [square for square in targets if square % 9 == 2]
                self.assertEqual(len(in_column), 0 if closes else 7, (row, pawn))
                # The columns on both sides stay open.
                self.assertEqual(len([square for square in targets if square % 9 in (1, 3)]), 16)

    def test_two_pawns_in_a_column_of_the_second_player(self):
        for pawn, closes in ((17, True), (25, False), (1, False), (9, False)):
            position = put_together({4: 24, 76: 8, 47: pawn}, {7: 1}, turn=1)
            in_column = [square for square in targets_from_hand(position, 1) if square % 9 == 2]
            self.assertEqual(len(in_column), 0 if closes else 7, pawn)

    def test_other_kinds_do_not_mind_pawns(self):
        for kind in range(2, 8):
            targets = targets_from_hand(put_together({4: 24, 76: 8, 47: 1}, {kind - 1: 1}), kind)
            self.assertIn(38, targets)

    def test_in_check_only_between(self):
        text = "4r3k/9/9/9/9/9/4K4/9/9 b RBGSNLP 1"
        for letter, rows in (("P", "bcdef"), ("L", "bcdef"), ("N", "cdef"), ("S", "bcdef"), ("G", "bcdef"), ("R", "bcdef")):
            self.assertEqual(names_of_moves(text, letter), [f"{letter}*5{row}" for row in rows])
        # Where the column has a pawn behind the king, no pawn helps.
        text = "4r3k/9/9/9/9/9/4K4/4P4/9 b RP 1"
        self.assertEqual(names_of_moves(text, "P"), [])
        text = "k8/9/6b2/9/9/9/2K6/9/9 b G 1"
        self.assertEqual(names_of_moves(text, "G"), ["G*4d", "G*5e", "G*6f"])

    def test_the_order_of_the_numbers(self):
        # From the board before from the hand, promoted ones last.
        moves = sg_moves(ALL, told("k8/9/9/4P4/9/9/9/9/8K b LP 1"))[1:]
        self.assertEqual(moves, sorted(moves))
        self.assertEqual(moves[0], move_named("5d5c"))
        self.assertEqual(moves[-1], move_named("5d5c+"))
        self.assertEqual(moves[1:4], [move_named("1i2h"), move_named("1i1h"), move_named("1i2i")])
        self.assertEqual(moves[4], move_named("P*9b"))
        self.assertEqual(moves[-2], move_named("L*2i"))
        self.assertEqual(len(moves), 1 + 3 + (8 * 8 - 1) + (72 - 2) + 1)


class MateByAPawn(unittest.TestCase):
    MATE = "7nk/9/7G1/9/9/9/9/9/K8 b P 1"

    def asked(self, text, name, legal):
        for position in (told(text), turned(told(text))):
            moves = sg_moves(ALL, position)[1:]
            self.assertEqual(moves, moves_by_trying(position), text)
        self.assertEqual(name in names_of_moves(text), legal, text)
        answer = sg_play(move_named(name), told(text))
        self.assertEqual(answer[0], 0 if legal else -1, text)

    def test_check_and_mate(self):
        self.asked(self.MATE, "P*1b", False)
        self.asked("k8/9/1+R7/9/9/9/9/9/8K b P 1", "P*9b", False)
        self.asked("3lkl3/9/4G4/9/9/9/9/9/4K4 b P 1", "P*5b", False)
        self.asked("3gkl3/2B6/4S4/9/9/9/9/9/4K4 b P 1", "P*5b", True)
        self.asked("k8/9/9/9/9/9/1g7/9/KN7 w p 1", "P*9h", False)

    def test_only_that_square(self):
        names = names_of_moves(self.MATE, "P*")
        expected = [f"P*{column}{row}" for column in range(1, 10) for row in "bcdefghi"]
        for taken in ("P*2c", "P*9i", "P*1b"):
            expected.remove(taken)
        self.assertEqual(names, expected)

    def test_check_and_no_mate(self):
        # The king goes aside, takes the pawn that nothing keeps, or takes what isn't kept beside it.
        self.asked("8k/9/7G1/9/9/9/9/9/K8 b P 1", "P*1b", True)
        self.asked("7nk/9/9/7G1/9/9/9/9/K8 b P 1", "P*1b", True)
        self.asked("7nk/9/6G2/9/9/9/9/9/K8 b P 1", "P*1b", True)
        self.asked("7Sk/9/7G1/9/9/9/9/9/K8 b P 1", "P*1b", True)
        self.asked("R6Sk/9/7G1/9/9/9/9/9/K8 b P 1", "P*1b", False)
        # Another piece takes the pawn.
        self.asked("7gk/9/7G1/9/9/9/9/9/K8 b P 1", "P*1b", True)
        self.asked("7nk/r8/7G1/9/9/9/9/9/4K4 b P 1", "P*1b", True)

    def test_moves_that_are_no_help(self):
        # The bishop takes the pawn's keeper, and the king is in check still.
        self.asked("7nk/9/7G1/6b2/9/9/9/9/K8 b P 1", "P*1b", False)
        self.asked("7nk/9/6bG1/9/9/9/9/9/K8 b P 1", "P*1b", False)
        self.asked("6bnk/9/7G1/7b1/9/9/9/9/K8 b P 1", "P*1b", False)

    def test_what_could_take_it_is_pinned(self):
        self.asked("R6gk/9/7G1/9/9/9/9/9/K8 b P 1", "P*1b", False)
        self.asked("R5pgk/9/7G1/9/9/9/9/9/K8 b P 1", "P*1b", True)
        # Along its line a pinned piece may take: a gold goes straight back, a silver doesn't.
        self.asked("7nk/9/7Gg/9/8R/9/9/9/K8 b P 1", "P*1b", True)
        self.asked("7nk/9/7Gs/9/8R/9/9/9/K8 b P 1", "P*1b", False)

    def test_the_keeper_is_pinned(self):
        # The pawn's keeper can't move without its own king in check, and still keeps the pawn.
        self.asked("5b1nk/9/7G1/8K/9/9/9/9/9 b P 1", "P*1b", False)

    def test_the_pawn_shuts_a_way(self):
        # The bishop on 7d kept 4a, but for the pawn on 5b; the one on 1d keeps it still.
        self.asked("3lk4/9/4G4/2B6/9/9/9/9/4K4 b P 1", "P*5b", True)
        self.asked("3lk4/9/4G4/8B/9/9/9/9/4K4 b P 1", "P*5b", False)
        # The rook keeps 2b and the pawn itself.
        self.asked("7nk/R8/9/9/9/9/9/9/K8 b P 1", "P*1b", False)

    def test_a_pawn_on_the_board_may_give_mate(self):
        text = "7nk/9/7GP/9/9/9/9/9/K8 b - 1"
        self.asked(text, "1c1b", True)
        self.asked(text, "1c1b+", True)
        answer = sg_play(move_named("1c1b"), told(text))
        self.assertEqual(sg_moves(ALL, answer[1:]), [0])

    def test_another_piece_from_the_hand_may_give_mate(self):
        text = "7nk/9/7G1/9/9/9/9/9/K8 b RGSLP 1"
        for name in ("R*1b", "G*1b", "L*1b"):
            self.asked(text, name, True)
            answer = sg_play(move_named(name), told(text))
            self.assertEqual(sg_moves(ALL, answer[1:]), [0], name)
        self.asked(text, "P*1b", False)

    def test_no_check_and_yet_no_move_for_the_other(self):
        text = "8k/9/7S1/9/9/9/9/9/K8 b P 1"
        self.asked(text, "P*2b", True)
        answer = sg_play(move_named("P*2b"), told(text))
        self.assertEqual(sg_moves(ALL, answer[1:]), [0])

    def test_while_in_check_oneself(self):
        # The pawn on 5b would help against the rook; it can't be taken by it, for the bishop pins the rook.
        text = "3nkn3/K4r3/4G4/7B1/9/9/9/9/9 b P 1"
        self.asked(text, "P*5b", False)
        self.asked(text, "P*6b", True)
        self.asked("3nkn3/K4r3/4G4/9/9/9/9/9/7B1 b P 1", "P*5b", True)

    def test_what_leaves_the_own_king_in_check_is_no_legal_pawn_either(self):
        self.asked("7nk/9/7G1/9/9/9/9/9/K7r b P 1", "P*1b", False)
        self.asked("8k/9/7G1/9/9/9/9/9/K7r b P 1", "P*1b", False)

    # A pawn that gives check stands beside the king, so nothing from the hand comes between: whatever the other has
    # in hand, a pawn that would give mate too, is no help, and the pawn stays illegal.
    def test_what_the_other_has_in_hand_is_no_help(self):
        for hand in ("p", "2p", "rbgsnlp", "17p", "g"):
            self.asked(f"7nk/9/7G1/9/9/9/9/9/K8 b P{hand} 1", "P*1b", False)
            self.asked(f"7nk/9/7G1/9/9/9/1g7/9/KN7 b P{hand} 1", "P*1b", False)
        # The other's own pawn from the hand would give mate there, were it the other's turn.
        self.asked("7nk/9/7G1/9/9/9/1g7/9/KN7 w Pp 1", "P*9h", False)

    def test_in_every_column(self):
        for column in range(9):
            board = {column: 24, 18 + column: 5, 62 if column < 5 else 54: 8}
            for beside in (column - 1, column + 1):
                if 0 <= beside <= 8:
                    board[beside] = 18
            position = put_together(board, {0: 1})
            self.assertEqual(sg_moves(ALL, position)[1:], moves_by_trying(position))
            self.assertNotIn(128 * 81 + 9 + column, sg_moves(ALL, position)[1:])
            self.assertIn(128 * 81 + 27 + column, sg_moves(ALL, position)[1:])
            self.assertNotIn(128 * 81 + 71 - column, sg_moves(ALL, turned(position))[1:])


if __name__ == "__main__":
    unittest.main()
