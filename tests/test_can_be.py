"""When a position can be: -2 of sg_set and, before all else, of sg_text (points 1 and 8)."""

import unittest

from komadai.board import sg_text
from tests.helper import answer_to, apart, between, goes, put_together, stuck, text_from

KINGS = {4: 24, 76: 8}
NO_PIECE = (13, 16, 29) + tuple(range(32, 256))

# Unpromoted kinds to how many of them there may be.
MOST = {1: 18, 2: 4, 3: 4, 4: 4, 5: 4, 6: 2, 7: 2}


# A square for the checking player's own king where it neither gives check nor stands between.
def quiet_square(square, target):
    for place in (0, 8, 72, 80, 22, 58):
        if apart(place, target) > 1 and not between(place, square, target):
            return place
    raise AssertionError("no quiet square")


class Pieces(unittest.TestCase):
    def test_numbers_that_are_no_piece(self):
        for number in NO_PIECE:
            for square in (0, 40, 80):
                board = dict(KINGS)
                board[square] = number
                for turn in (0, 1):
                    self.assertEqual(sg_text(put_together(board, turn=turn)), [-2], number)

    def test_a_number_that_is_no_piece_in_place_of_a_king(self):
        for number in NO_PIECE:
            self.assertEqual(sg_text(put_together({4: number, 76: 8})), [-2])
            self.assertEqual(sg_text(put_together({4: 24, 76: number})), [-2])

    def test_every_square_255(self):
        self.assertEqual(sg_text([255] * 97), [-2])
        self.assertEqual(sg_text([255] * 96 + [65535]), [-2])

    def test_every_square_empty(self):
        self.assertEqual(sg_text([0] * 97), [-2])
        self.assertEqual(answer_to("9/9/9/9/9/9/9/9/9 b - 1"), [-2])


class HowMany(unittest.TestCase):
    def can_be(self, position, expected):
        answer = text_from(position)
        if expected:
            self.assertEqual(answer_to(answer), [0] + position, position)
        else:
            self.assertEqual(answer, [-2], position)

    def test_in_one_hand(self):
        for side in (0, 7):
            for kind, most in MOST.items():
                place = side + kind - 1
                self.can_be(put_together(KINGS, {place: most}), True)
                self.can_be(put_together(KINGS, {place: most + 1}), False)
                self.can_be(put_together(KINGS, {place: 255}), False)
                self.can_be(put_together(KINGS, {place: 256 - most}), False)

    def test_in_both_hands(self):
        for kind, most in MOST.items():
            for first in range(most + 1):
                self.can_be(put_together(KINGS, {kind - 1: first, kind + 6: most - first}), True)
                self.can_be(put_together(KINGS, {kind - 1: first, kind + 6: most - first + 1}), False)

    def test_hands_that_add_up_to_256(self):
        self.can_be(put_together(KINGS, {0: 128, 7: 128}), False)
        self.can_be(put_together(KINGS, {5: 255, 12: 1}), False)

    def test_on_the_board_and_in_hand(self):
        for kind, most in MOST.items():
            for piece in (kind, kind + 8, kind + 16, kind + 24):
                if piece in NO_PIECE:
                    continue
                # From there nothing reaches the kings, whoever is to move.
                board = {0: 24, 80: 8, 41: piece}
                for turn in (0, 1):
                    for place in (kind - 1, kind + 6):
                        self.can_be(put_together(board, {place: most - 1}, turn), True)
                        self.can_be(put_together(board, {place: most}, turn), False)

    def test_promoted_and_unpromoted_together(self):
        for unpromoted, promoted, kind in ((2, 10, 2), (3, 11, 3), (4, 12, 4)):
            board = {0: 24, 80: 8, 38: unpromoted, 39: promoted, 40: unpromoted + 16}
            self.can_be(put_together(board, {kind - 1: 1}), True)
            board[41] = promoted + 16
            self.can_be(put_together(board), True)
            self.can_be(put_together(board, {kind - 1: 1}), False)
            board[42] = promoted
            self.can_be(put_together(board), False)

    def test_nineteen_pawns_on_the_board(self):
        board = {0: 24, 80: 8}
        for column in range(9):
            board[27 + column] = 17
            board[45 + column] = 1
        self.can_be(put_together(board), True)
        board[40] = 9
        self.can_be(put_together(board), False)
        board[40] = 25
        self.can_be(put_together(board), False)

    def test_gold_is_not_mixed_up_with_promoted_ones(self):
        board = {0: 24, 80: 8, 37: 9, 38: 10, 39: 11, 40: 12, 41: 25, 42: 26, 43: 27, 44: 28}
        self.can_be(put_together(board, {4: 4}), True)
        self.can_be(put_together(board, {4: 5}), False)

    def test_everything_at_once(self):
        hands = {0: 9, 7: 9, 1: 2, 8: 2, 2: 2, 9: 2, 3: 2, 10: 2, 4: 2, 11: 2, 5: 1, 12: 1, 6: 1, 13: 1}
        self.can_be(put_together(KINGS, hands), True)

    def test_told_by_a_text(self):
        for hand, first in (("19P", -2), ("18P", 0), ("5L", -2), ("4L", 0), ("5N", -2), ("5S", -2), ("5G", -2),
                            ("3B", -2), ("3R", -2), ("20P", -2), ("255P", -2), ("255r", -2), ("R2r", -2),
                            ("9P10p", -2), ("9P9p", 0), ("4Gg", -2), ("255R255B255G255S255N255L255P", -2)):
            self.assertEqual(answer_to(f"4k4/9/9/9/9/9/9/9/4K4 b {hand} 1")[0], first, hand)


class Kings(unittest.TestCase):
    def test_each_player_has_one(self):
        boards = ({}, {4: 24}, {76: 8}, {4: 24, 76: 8, 78: 8}, {4: 24, 2: 24, 76: 8}, {4: 24, 6: 24}, {74: 8, 76: 8},
                  {4: 24, 2: 24, 76: 8, 78: 8})
        for board in boards:
            for turn in (0, 1):
                self.assertEqual(sg_text(put_together(board, turn=turn)), [-2], board)
        for text in ("9/9/9/9/9/9/9/9/4K4 b - 1", "4k4/9/9/9/9/9/9/9/9 b - 1", "4k4/9/9/9/9/9/9/9/3KK4 b - 1",
                     "3kk4/9/9/9/9/9/9/9/4K4 w - 1", "4K4/9/9/9/9/9/9/9/4K4 w - 1"):
            self.assertEqual(answer_to(text), [-2], text)

    def test_anywhere_else(self):
        self.assertEqual(text_from(put_together({0: 8, 80: 24})), "K8/9/9/9/9/9/9/9/8k b - 1")

    def test_side_by_side(self):
        for square in range(81):
            for target in range(81):
                if square != target:
                    expected = apart(square, target) > 1
                    for turn in (0, 1):
                        answer = sg_text(put_together({square: 8, target: 24}, turn=turn))
                        self.assertEqual(answer != [-2], expected, (square, target))


class Pawns(unittest.TestCase):
    def test_two_in_a_column(self):
        for column in range(9):
            for pawn in (1, 17):
                for upper in range(1, 7):
                    for lower in range(upper + 1, 8):
                        board = {0: 24, 80: 8} if column == 4 else {4: 24, 76: 8}
                        board[upper * 9 + column] = pawn
                        board[lower * 9 + column] = pawn
                        self.assertEqual(sg_text(put_together(board)), [-2], board)

    def test_one_of_each_player_or_one_promoted(self):
        for one, other in ((1, 17), (17, 1), (1, 9), (9, 1), (17, 25), (25, 17), (9, 9), (25, 25), (1, 25), (9, 17)):
            for column in (0, 3, 8):
                board = {4: 24, 76: 8, 27 + column: one, 45 + column: other}
                self.assertNotEqual(sg_text(put_together(board)), [-2], board)

    def test_side_by_side_and_across_the_edge(self):
        board = {4: 24, 76: 8, 36: 1, 37: 1, 35: 1, 53: 17, 54: 17}
        self.assertNotEqual(sg_text(put_together(board)), [-2])

    def test_a_column_in_a_text(self):
        self.assertEqual(answer_to("4k4/9/9/2P6/9/2P6/9/9/4K4 b - 1"), [-2])
        self.assertEqual(answer_to("4k4/9/9/2p6/9/2p6/9/9/4K4 w - 1"), [-2])
        self.assertEqual(answer_to("4k4/9/9/2P6/9/2+P6/9/9/4K4 b - 1")[0], 0)
        self.assertEqual(answer_to("4k4/9/9/2p6/9/2P6/9/9/4K4 b - 1")[0], 0)


class LastRows(unittest.TestCase):
    # The other is to move, and may be in check: so nothing but the piece's own row matters.
    def test_every_kind_on_every_square(self):
        for kind in (1, 2, 3, 4, 5, 6, 7, 9, 10, 11, 12, 14, 15):
            for square in range(81):
                row = square // 9
                first, second = (37, 43) if square in (36, 44) else (36, 44)
                for side, ahead_rows in ((0, row), (1, 8 - row)):
                    board = {first: 8, second: 24, square: kind + 16 * side}
                    answer = sg_text(put_together(board, turn=1 - side))
                    self.assertEqual(answer == [-2], stuck(kind, ahead_rows), (kind, side, square))

    def test_told_by_a_text(self):
        for row, kinds in ((0, "PLN"), (1, "N"), (8, "pln"), (7, "n")):
            for letter in "PLNSGBRplnsgbr":
                rows = ["9"] * 9
                rows[3] = "8k"
                rows[5] = "8K"
                rows[row] = f"{letter}8"
                text = "/".join(rows) + f" {'b' if letter.isupper() else 'w'} - 1"
                expected = -2 if letter in kinds else 0
                self.assertEqual(answer_to(text)[0], expected, text)

    def test_promoted_ones_may_stand_there(self):
        text = "+P+L+N6/+N8/9/8k/9/8K/9/+n8/+p+l+n6 b - 1"
        self.assertEqual(text_from(answer_to(text)[1:]), text)

    def test_first_players_pawn_in_its_own_first_row(self):
        text = "p1l1n4/1n7/9/8k/9/8K/9/1N7/P1L1N4 b - 1"
        self.assertEqual(text_from(answer_to(text)[1:]), text)


class Check(unittest.TestCase):
    # Every kind from every square to every other: at the edges nothing goes round them.
    def test_by_each_kind_alone(self):
        for side in (0, 1):
            sign = -1 if side == 0 else 1
            for kind in (1, 2, 3, 4, 5, 6, 7, 9, 10, 11, 12, 14, 15):
                for square in (0, 3, 8, 10, 16, 27, 35, 40, 41, 49, 53, 64, 70, 72, 77, 80):
                    ahead_rows = square // 9 if side == 0 else 8 - square // 9
                    if stuck(kind, ahead_rows):
                        continue
                    for target in range(81):
                        if target != square:
                            given = goes(kind, sign * (target // 9 - square // 9), target % 9 - square % 9)
                            self.one_checker(kind, side, square, target, given)

    def one_checker(self, kind, side, square, target, given):
        own = quiet_square(square, target)
        board = {own: 8 + 16 * side, target: 24 - 16 * side, square: kind + 16 * side}
        answer = sg_text(put_together(board, turn=side))
        self.assertEqual(answer == [-2], given, (kind, side, square, target))
        # The one to move may be in check.
        self.assertNotEqual(sg_text(put_together(board, turn=1 - side)), [-2], (kind, side, square, target))

    def test_something_between(self):
        ways = {6: "aslant", 14: "aslant", 7: "straight", 15: "straight", 2: "ahead"}
        steps = {
            "aslant": ((-1, -1), (-1, 1), (1, -1), (1, 1)),
            "straight": ((-1, 0), (1, 0), (0, -1), (0, 1)),
            "ahead": ((-1, 0),),
        }
        for side in (0, 1):
            sign = 1 if side == 0 else -1
            for kind, way in ways.items():
                for down, right in steps[way]:
                    step = sign * down * 9 + right
                    king = 40 + 4 * step
                    for place in (1, 2, 3):
                        for blocker in (4, 20, 5, 21):
                            self.one_blocked(kind, side, king, 40 + place * step, blocker)

    def one_blocked(self, kind, side, king, place, blocker):
        own = 22 if not between(22, 40, king) and apart(22, king) > 1 else 58
        board = {40: kind + 16 * side, king: 24 - 16 * side, own: 8 + 16 * side}
        self.assertEqual(sg_text(put_together(board, turn=side)), [-2])
        # What stands between gives no check itself: it is the king's own, or too far.
        board[place] = blocker
        if apart(place, king) > 1 or (blocker >= 16) != (side == 1):
            self.assertNotEqual(sg_text(put_together(board, turn=side)), [-2], board)

    def test_a_knight_goes_over_what_is_between(self):
        board = "9/3k5/3pgp3/3gNg3/3sss3/9/9/9/K8"
        self.assertEqual(answer_to(f"{board} b - 1"), [-2])
        self.assertEqual(answer_to(f"{board} w - 1")[0], 0)
        board = "9/9/9/3SSS3/3GnG3/3PGP3/3K5/9/8k"
        self.assertEqual(answer_to(f"{board} w - 1"), [-2])
        self.assertEqual(answer_to(f"{board} b - 1")[0], 0)

    def test_far_promoted_ones_do_not_go_far_the_other_way(self):
        self.assertEqual(answer_to("9/9/4k4/9/4+B4/9/9/9/K8 b - 1")[0], 0)
        self.assertEqual(answer_to("9/9/9/4k4/4+B4/9/9/9/K8 b - 1"), [-2])
        self.assertEqual(answer_to("9/9/2k6/9/4+R4/9/9/9/K8 b - 1")[0], 0)
        self.assertEqual(answer_to("9/9/9/3k5/4+R4/9/9/9/K8 b - 1"), [-2])

    def test_by_one_of_several(self):
        self.assertEqual(answer_to("4k4/9/9/9/9/9/9/4R4/K8 b - 1"), [-2])
        self.assertEqual(answer_to("4k4/9/9/9/4P4/9/9/4R4/K8 b - 1")[0], 0)
        self.assertEqual(answer_to("4k4/9/9/9/4P3B/9/9/4R4/K8 b - 1"), [-2])

    def test_both_in_check(self):
        for turn in "bw":
            self.assertEqual(answer_to(f"4k4/9/4R4/9/9/9/4r4/9/4K4 {turn} - 1")[0], -2)

    def test_the_one_to_move_may_be_in_check(self):
        for text in ("4k4/9/4R4/9/9/9/9/9/4K4 w - 1", "4k4/9/9/9/9/9/4r4/9/4K4 b - 1"):
            self.assertEqual(text_from(answer_to(text)[1:]), text)
        self.assertEqual(answer_to("4k4/9/4R4/9/9/9/9/9/4K4 b - 1"), [-2])
        self.assertEqual(answer_to("4k4/9/9/9/9/9/4r4/9/4K4 w - 1"), [-2])


class Turn(unittest.TestCase):
    def test_another_turn(self):
        for turn in range(2, 256):
            self.assertEqual(sg_text(put_together(KINGS, turn=turn)), [-2], turn)

    def test_before_all_else(self):
        for number in (0, 65534, 65535):
            self.assertEqual(sg_text(put_together(KINGS, turn=2, number=number)), [-2])
            self.assertEqual(sg_text(put_together({4: 24}, number=number)), [-2])


if __name__ == "__main__":
    unittest.main()
