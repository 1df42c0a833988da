"""Point 6, sg_state: 1 if whoever is to move is in check, 2 more if there's no legal move; and -2 of point 8."""

import unittest

from komadai.board import sg_moves, sg_play, sg_state
from tests.helper import (
    MATED, ONLY_A_CHECKING_PAWN, ONLY_A_MATING_PAWN, ONLY_A_PAWN_ON_THE_BOARD, OPENING, ORDINARY, STUCK, TANGLED,
    Unchangeable, game_played_on, move_named, moves_out_of_check, positions_that_cannot_be, put_together, square_named,
    state_by_trying, told, turned,
)

ALL = 4294967295

IN_CHECK = (
    "4r3k/9/9/9/9/9/9/5G3/4K4 b P 1",
    "8k/9/9/9/9/9/9/4g4/4K4 b RBGSNLP 1",
    "8k/9/9/9/9/9/5n3/6G2/4K4 b R 1",
    "4r3k/9/9/9/9/9/5n3/6G2/4K4 b RP 1",
    "4k4/9/9/9/9/9/9/9/K3R4 w g 1",
    "7gk/8P/7G1/9/9/9/9/9/K8 w - 2",
)


class States(unittest.TestCase):
    def stands(self, texts, state):
        for text in texts:
            for position in (told(text), turned(told(text))):
                self.assertEqual(sg_state(position), [state], text)

    def test_no_check_and_moves(self):
        self.stands(ORDINARY, 0)
        self.stands(("k8/9/9/9/9/9/9/9/8K b - 1", ONLY_A_CHECKING_PAWN, ONLY_A_PAWN_ON_THE_BOARD), 0)

    def test_check_and_moves(self):
        self.stands(IN_CHECK, 1)

    def test_no_check_and_no_move(self):
        self.stands(STUCK, 2)

    def test_check_and_no_move(self):
        self.stands(MATED, 3)

    def test_check_by_each_kind(self):
        for kind, square in ((1, "5h"), (2, "5e"), (3, "6g"), (4, "4h"), (5, "6h"), (6, "2f"), (7, "1i"), (9, "4h"),
                             (10, "4i"), (11, "6i"), (12, "5h"), (14, "9e"), (14, "5h"), (15, "5b"), (15, "6h")):
            position = put_together({8: 24, square_named("5i"): 8, square_named(square): 16 + kind})
            self.assertEqual(sg_state(position), [1], (kind, square))
            self.assertEqual(sg_state(turned(position)), [1], (kind, square))

    # Those who aren't to move are never in check; it is the mover's king that counts.
    def test_the_pieces_of_the_mover_give_no_check(self):
        self.stands(("4k4/9/9/9/4p4/9/9/4R4/4K4 b - 1", "4k4/4r4/9/9/4P4/9/9/9/4K4 b - 1"), 0)
        self.stands(("4k4/4r4/9/9/9/4p4/9/9/4K4 b - 1",), 0)

    def test_one_legal_move_is_enough(self):
        for text, state, move in (
            ("8k/9/9/9/9/9/9/4g4/4K4 b RBGSNLP 1", 1, "5i5h"),
            ("8k/9/9/9/9/9/9/PP7/K1r6 b G 1", 1, "G*8i"),
            ("8k/9/9/9/9/9/9/PP7/K1rG5 b - 1", 1, "6i7i"),
            (ONLY_A_CHECKING_PAWN, 0, "P*1e"),
            (ONLY_A_PAWN_ON_THE_BOARD, 0, "1f1e"),
        ):
            self.stands((text,), state)
            self.assertEqual(sg_moves(ALL, told(text)), [1, move_named(move)])

    # A hand that is empty, has only what can't come there, or is the other's.
    def test_what_is_no_help(self):
        for hand in ("-", "P", "16P", "16p", "g", "rbgsnlp"):
            self.stands((f"8k/9/9/9/9/9/9/PP7/K1r6 b {hand} 1",), 3)
        for hand in ("G", "L", "GP", "RBGSLP"):
            self.stands((f"8k/9/9/9/9/9/9/PP7/K1r6 b {hand} 1",), 1)

    def test_the_number_is_not_looked_at(self):
        for text in TANGLED + IN_CHECK + MATED + STUCK:
            position = told(text)
            for number in (0, 1, 65533, 65534, 65535):
                self.assertEqual(sg_state(position[0:96] + [number]), [state_by_trying(position)], text)

    def test_all_that_can_be_tried(self):
        for text in TANGLED + IN_CHECK + MATED + STUCK:
            for position in (told(text), turned(told(text))):
                self.assertEqual(sg_state(position), [state_by_trying(position)], text)

    def test_behind_every_move(self):
        for text in TANGLED + IN_CHECK:
            position = told(text)
            if sg_moves(ALL, position)[0] < 200:
                for move in sg_moves(ALL, position[0:96] + [1])[1:]:
                    after = sg_play(move, position[0:96] + [1])[1:]
                    self.assertEqual(sg_state(after), [state_by_trying(after)], (text, move))

    def test_games_played_on(self):
        for seed in range(20, 26):
            for position in game_played_on(seed, 200):
                self.assertEqual(sg_state(position), [state_by_trying(position)], position)


class MateByAPawn(unittest.TestCase):
    # A pawn from the hand that would give mate is no legal move. Whoever is in check always has another help beside such
    # a pawn, if it is one: what gives the check then has to be pinned, or it would take the pawn, and what pins it may
    # take it. So the state is 2 here, and never 3.
    def test_as_the_only_move_left(self):
        position = told(ONLY_A_MATING_PAWN)
        self.assertEqual(moves_out_of_check(position), [move_named("P*1e")])
        self.assertEqual(sg_state(position), [2])
        self.assertEqual(sg_state(turned(position)), [2])

    def test_beside_other_moves(self):
        self.assertEqual(sg_state(told("7nk/9/7G1/9/9/9/9/9/K8 b P 1")), [0])
        # It would come between here.
        self.assertEqual(sg_state(told("3nkn3/K4r3/4G4/7B1/9/9/9/9/9 b P 1")), [1])

    def test_behind_a_pawn_that_gives_mate_from_the_board(self):
        answer = sg_play(move_named("1f1e"), told(ONLY_A_PAWN_ON_THE_BOARD))
        self.assertEqual(sg_state(answer[1:]), [3])

    def test_behind_a_pawn_from_the_hand_that_gives_check(self):
        answer = sg_play(move_named("P*1e"), told(ONLY_A_CHECKING_PAWN))
        self.assertEqual(sg_state(answer[1:]), [1])
        answer = sg_play(move_named("2d1e"), answer[1:])
        self.assertEqual(sg_state(answer[1:]), [2])

    # Such a position can be, though no legal move leads to it.
    def test_where_it_stands_already(self):
        self.assertEqual(sg_state(told("7nk/8P/7G1/9/9/9/9/9/K8 w - 2")), [3])


class Answers(unittest.TestCase):
    def test_positions_that_cannot_be(self):
        for number in (0, 1, 65534, 65535):
            for position in positions_that_cannot_be(number):
                self.assertEqual(sg_state(position), [-2], position)

    def test_a_whole_number_in_a_list(self):
        for position in [told(text) for text in (OPENING, IN_CHECK[0], MATED[0], STUCK[0])] + [[0] * 97]:
            answer = sg_state(position)
            self.assertIs(type(answer), list)
            self.assertEqual(len(answer), 1)
            self.assertIs(type(answer[0]), int)

    def test_nothing_is_kept_and_nothing_changed(self):
        for text in TANGLED + IN_CHECK + MATED + STUCK:
            position = told(text)
            before = list(position)
            first = sg_state(position)
            self.assertEqual(position, before)
            kept = list(first)
            first.clear()
            sg_state(turned(position))
            self.assertEqual(sg_state(Unchangeable(position)), kept)
        sg_state(Unchangeable([0] * 97))


if __name__ == "__main__":
    unittest.main()
