"""Point 5, sg_count: how many ways there are of n legal moves one after another, or -3; and -2 of point 8."""

import unittest

from komadai.board import sg_count, sg_moves, sg_play
from tests.helper import (
    KNOWN_WAYS, MATED, ONLY_A_CHECKING_PAWN, ONLY_A_MATING_PAWN, ONLY_A_PAWN_ON_THE_BOARD, OPENING, STUCK, TANGLED,
    Unchangeable, game_played_on, move_named, moves_out_of_check, positions_that_cannot_be, put_together, told, turned,
    ways_by_playing, ways_by_trying,
)

ALL = 4294967295

# Few moves each, so that three of them are soon tried: hands, checks, mates by a move and by a pawn from the hand.
SMALL = (
    "k8/9/9/9/9/9/9/9/8K b - 1",
    "7nk/9/7GP/9/9/9/9/9/K8 b - 1",
    "7nk/9/7GP/9/9/9/9/9/K8 b - 65531",
    "4r3k/9/9/9/9/9/5n3/6G2/4K4 b P 1",
    "8k/9/9/9/9/9/9/4g4/4K4 b RBGSNLP 1",
    "k8/2P6/1S7/9/9/9/9/9/8K w - 12",
    "3lkl3/9/4GP3/9/9/9/9/9/4K4 b - 1",
    "9/9/4k4/9/4K4/9/9/9/9 w - 40",
    ONLY_A_MATING_PAWN,
    ONLY_A_CHECKING_PAWN,
    ONLY_A_PAWN_ON_THE_BOARD,
)


def with_number(position, number):
    return position[0:96] + [number]


class Ways(unittest.TestCase):
    def counted(self, text, *expected):
        for position in (told(text), turned(told(text))):
            self.assertEqual([sg_count(n, position) for n in range(len(expected))], [[ways] for ways in expected], text)

    def test_no_move_is_one_way(self):
        for text in TANGLED + SMALL + MATED + STUCK:
            self.assertEqual(sg_count(0, told(text)), [1], text)

    def test_one_move_as_many_as_there_are(self):
        for text in TANGLED + SMALL + MATED + STUCK:
            for position in (told(text), turned(told(text))):
                if position[96] < 65534:
                    self.assertEqual(sg_count(1, position), sg_moves(ALL, position)[0:1], text)

    def test_opening(self):
        self.counted(OPENING, 1, 30, 900, 25470)

    def test_known_of_other_positions(self):
        for text, known in KNOWN_WAYS.items():
            self.counted(text, 1, known[0], known[1])
        text = "l6nl/5+P1gk/2np1S3/p1p4Pp/3P2Sp1/1PPb2P1P/P5GS1/R8/LN4bKL w RGgsn5p 1"
        self.assertEqual(sg_count(3, told(text)), [4809015])

    # The kings far from one another in their corners: three moves, then three, then 5, 8 or 5 again.
    def test_two_kings_by_hand(self):
        self.counted("k8/9/9/9/9/9/9/9/8K b - 1", 1, 3, 3 * 3, (5 + 8 + 5) * 3)

    # 71 squares for the pawn; from 9c, 8c and 8b it closes one of the king's three ways, from 9b none, being taken.
    def test_a_pawn_in_hand_by_hand(self):
        self.counted("k8/9/9/9/9/9/9/9/8K b P 1", 1, 71 + 3, 71 * 3 - 3 + 3 * 3)

    def test_two_of_a_kind_in_hand_are_one_way(self):
        for kind, most in ((1, 9), (2, 4), (4, 4), (7, 2)):
            board = {0: 24, 80: 8}
            for n in (1, 2):
                one = sg_count(n, put_together(board, {kind - 1: 1}))
                self.assertEqual(sg_count(n, put_together(board, {kind - 1: most})), one)

    # The same end by other moves, or by the same moves in another order, is another way.
    def test_ways_are_told_apart_by_their_moves(self):
        position = told("k8/9/9/9/9/9/9/9/8K b - 1")
        ends = set()
        for first in sg_moves(ALL, position)[1:]:
            second_position = sg_play(first, position)[1:]
            for second in sg_moves(ALL, second_position)[1:]:
                third_position = sg_play(second, second_position)[1:]
                for third in sg_moves(ALL, third_position)[1:]:
                    ends.add(tuple(sg_play(third, third_position)[1:]))
        self.assertLess(len(ends), 54)
        self.assertEqual(sg_count(3, position), [54])

    def test_where_a_way_ends_early(self):
        for text in MATED + STUCK:
            self.counted(text, 1, 0, 0, 0)
        # The only move gives mate.
        self.counted(ONLY_A_PAWN_ON_THE_BOARD, 1, 1, 0, 0)
        # Behind the only move and the only answer there is none.
        self.counted(ONLY_A_CHECKING_PAWN, 1, 1, 1, 0)
        # Three moves of the king, five of the gold, and the pawn that gives mate, promoted or not.
        position = told("7nk/9/7GP/9/9/9/9/9/K8 b - 1")
        self.assertEqual(sg_count(1, position), [3 + 5 + 2])
        ended = [move for move in sg_moves(ALL, position)[1:] if sg_count(1, sg_play(move, position)[1:]) == [0]]
        self.assertIn(move_named("1c1b"), ended)
        self.assertIn(move_named("1c1b+"), ended)
        self.assertEqual(sg_count(2, position), [ways_by_trying(2, position)])

    def test_all_that_can_be_tried(self):
        for text in SMALL:
            position = told(text)
            for n in (1, 2, 3):
                self.assertEqual(sg_count(n, position), [ways_by_trying(n, position)], (text, n))

    def test_two_moves_by_trying(self):
        for text in TANGLED:
            position = with_number(told(text), 5)
            if sg_moves(ALL, position)[0] < 200:
                self.assertEqual(sg_count(2, position), [ways_by_trying(2, position)], text)

    def test_by_playing_each_move(self):
        for text in TANGLED + SMALL + MATED + STUCK:
            position = with_number(told(text), 5)
            self.assertEqual(sg_count(2, position), [ways_by_playing(2, position)], text)
            counts = [sg_count(1, sg_play(move, position)[1:])[0] for move in sg_moves(ALL, position)[1:]]
            self.assertEqual(sg_count(2, position), [sum(counts)], text)
        for text in (OPENING,) + SMALL:
            position = told(text)
            self.assertEqual(sg_count(3, position), [ways_by_playing(3, position)], text)

    def test_games_played_on(self):
        for seed in (11, 12):
            for position in game_played_on(seed, 120)[::12]:
                self.assertEqual(sg_count(2, position), [ways_by_trying(2, position)], position)


class MateByAPawn(unittest.TestCase):
    # 69 squares for the pawn without the one that would give mate, six moves of the gold, three of the king.
    def test_is_not_counted(self):
        position = told("7nk/9/7G1/9/9/9/9/9/K8 b P 1")
        self.assertEqual(sg_count(1, position), [69 + 6 + 3])
        self.assertEqual(sg_count(1, turned(position)), [69 + 6 + 3])

    def test_as_the_only_move_left(self):
        position = told(ONLY_A_MATING_PAWN)
        self.assertEqual(moves_out_of_check(position), [move_named("P*1e")])
        self.assertEqual([sg_count(n, position) for n in (0, 1, 2, 3)], [[1], [0], [0], [0]])

    # In the second and in the third move, each player's; in the last two the first player has to take the pawn before.
    def test_is_not_counted_later_either(self):
        for n, text in (
            (2, "7nk/9/p6G1/9/9/9/9/9/K8 w P 1"), (2, ONLY_A_MATING_PAWN.replace(" b ", " w ")),
            (3, "7nk/9/4p2G1/9/9/9/9/p8/K8 b - 1"), (3, "7nk/9/4p2G1/9/9/9/9/p8/K8 b rbg 1"),
        ):
            for position in (told(text), turned(told(text))):
                legal = ways_by_trying(n, position)
                self.assertEqual(sg_count(n, position), [legal], text)
                self.assertLess(legal, ways_by_trying(n, position, moves_out_of_check), text)


class Refused(unittest.TestCase):
    def test_three_and_above(self):
        for text in (OPENING, ONLY_A_CHECKING_PAWN) + MATED[0:1] + STUCK:
            position = told(text)
            self.assertGreaterEqual(sg_count(3, position)[0], 0)
            for n in (4, 5, 6, 255, 256, 65533, 65534, 65535, 65536, 2147483647, 2147483648, 4294901765, ALL - 1, ALL):
                self.assertEqual(sg_count(n, position), [-3], n)
                self.assertEqual(sg_count(n, with_number(position, 0)), [-3], n)
                self.assertEqual(sg_count(n, with_number(position, 65535)), [-3], n)

    def test_number_and_n_together(self):
        for text in ("k8/9/9/9/9/9/9/9/8K b - 1", "7nk/9/7GP/9/9/9/9/9/K8 b - 1", MATED[0], STUCK[0]):
            position = told(text)
            for n in (0, 1, 2, 3):
                expected = sg_count(n, position)
                for number in (0, 1, 2, 255, 256, 65530, 65534 - n):
                    self.assertEqual(sg_count(n, with_number(position, number)), expected, (n, number))
                for number in range(65535 - n, 65536):
                    self.assertEqual(sg_count(n, with_number(position, number)), [-3], (n, number))

    def test_no_move_at_the_last_number(self):
        self.assertEqual(sg_count(0, with_number(told(OPENING), 65534)), [1])
        self.assertEqual(sg_count(0, with_number(told(OPENING), 65535)), [-3])
        self.assertEqual(sg_count(1, with_number(told(OPENING), 65533)), [30])
        self.assertEqual(sg_count(1, with_number(told(OPENING), 65534)), [-3])

    def test_positions_that_cannot_be(self):
        for number in (0, 1, 65531, 65534, 65535):
            for position in positions_that_cannot_be(number):
                for n in (0, 1, 2, 3, 4, 65535, ALL):
                    self.assertEqual(sg_count(n, position), [-2], (n, position))


class Answers(unittest.TestCase):
    def test_a_whole_number_in_a_list(self):
        for n, position in ((0, told(OPENING)), (1, told(OPENING)), (2, told(OPENING)), (1, told(MATED[0])),
                            (4, told(OPENING)), (0, [0] * 97)):
            answer = sg_count(n, position)
            self.assertIs(type(answer), list)
            self.assertEqual(len(answer), 1)
            self.assertIs(type(answer[0]), int)

    def test_nothing_is_kept_and_nothing_changed(self):
        for text in SMALL + MATED + STUCK + (OPENING,):
            for n in (0, 1, 2, 3, 4, ALL):
                position = told(text)
                before = list(position)
                first = sg_count(n, position)
                self.assertEqual(position, before)
                kept = list(first)
                first.clear()
                sg_count(1, turned(position))
                self.assertEqual(sg_count(n, Unchangeable(position)), kept)
        sg_count(1, Unchangeable([0] * 97))
        sg_count(1, Unchangeable(with_number(told(OPENING), 65535)))


if __name__ == "__main__":
    unittest.main()
