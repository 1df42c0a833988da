"""Point 4, sg_play: 0 and the position behind the move, or -1, or -3."""

import unittest

from komadai.board import sg_moves, sg_play
from tests.helper import (
    KNOWN_WAYS, OPENING, ORDINARY, Unchangeable, done, move_named, moves_by_trying, put_together, text_from, told, turned,
    turned_move, ways_by_playing,
)

ALL = 4294967295
LETTERS = {1: "P", 2: "L", 3: "N", 4: "S", 5: "G", 6: "B", 7: "R"}


def played(text, name):
    return sg_play(move_named(name), told(text))


class Done(unittest.TestCase):
    def text_behind(self, text, name, expected):
        answer = played(text, name)
        self.assertEqual(answer[0], 0, (text, name))
        self.assertEqual(len(answer), 98)
        self.assertEqual(text_from(answer[1:]), expected)

    def test_a_game(self):
        text = OPENING
        game = (
            ("7g7f", "lnsgkgsnl/1r5b1/ppppppppp/9/9/2P6/PP1PPPPPP/1B5R1/LNSGKGSNL w - 2"),
            ("3c3d", "lnsgkgsnl/1r5b1/pppppp1pp/6p2/9/2P6/PP1PPPPPP/1B5R1/LNSGKGSNL b - 3"),
            ("8h2b+", "lnsgkgsnl/1r5+B1/pppppp1pp/6p2/9/2P6/PP1PPPPPP/7R1/LNSGKGSNL w B 4"),
            ("3a2b", "lnsgkg1nl/1r5s1/pppppp1pp/6p2/9/2P6/PP1PPPPPP/7R1/LNSGKGSNL b Bb 5"),
            ("B*4e", "lnsgkg1nl/1r5s1/pppppp1pp/6p2/5B3/2P6/PP1PPPPPP/7R1/LNSGKGSNL w b 6"),
            ("B*8e", "lnsgkg1nl/1r5s1/pppppp1pp/6p2/1b3B3/2P6/PP1PPPPPP/7R1/LNSGKGSNL b - 7"),
            ("4e3d", "lnsgkg1nl/1r5s1/pppppp1pp/6B2/1b7/2P6/PP1PPPPPP/7R1/LNSGKGSNL w P 8"),
            ("8e7f", "lnsgkg1nl/1r5s1/pppppp1pp/6B2/9/2b6/PP1PPPPPP/7R1/LNSGKGSNL b Pp 9"),
        )
        for name, behind in game:
            self.text_behind(text, name, behind)
            text = behind

    def test_without_and_with_promotion(self):
        text = "8k/9/9/4P4/9/9/9/9/K8 b - 1"
        self.text_behind(text, "5d5c", "8k/9/4P4/9/9/9/9/9/K8 w - 2")
        self.text_behind(text, "5d5c+", "8k/9/4+P4/9/9/9/9/9/K8 w - 2")
        text = "8k/9/4S4/9/9/9/9/9/K8 b - 1"
        self.text_behind(text, "5c6d", "8k/9/9/3S5/9/9/9/9/K8 w - 2")
        self.text_behind(text, "5c6d+", "8k/9/9/3+S5/9/9/9/9/K8 w - 2")

    def test_each_kind_promotes_to_its_own(self):
        for kind, source, target in ((1, 31, 22), (2, 31, 13), (3, 31, 12), (4, 31, 21), (6, 31, 21), (7, 31, 22)):
            position = put_together({31: kind, 53: 24, 72: 8}, turn=0)
            move = 16384 + 128 * source + target
            answer = sg_play(move, position)
            self.assertEqual(answer, [0] + put_together({target: kind + 8, 53: 24, 72: 8}, turn=1, number=2), kind)
            answer = sg_play(turned_move(move), turned(position))
            self.assertEqual(answer[1 + 80 - target], kind + 24)

    def test_what_is_taken_comes_into_the_hand_unpromoted(self):
        for piece in (1, 2, 3, 4, 5, 6, 7, 9, 10, 11, 12, 14, 15):
            plain = piece if piece < 8 else piece - 8
            position = put_together({41: 7, 44: piece + 16, 18: 24, 62: 8}, {0: 2, 7: 3})
            expected = put_together({44: 7, 18: 24, 62: 8}, {0: 2, 7: 3}, turn=1, number=2)
            expected[81 + plain - 1] += 1
            self.assertEqual(sg_play(128 * 41 + 44, position), [0] + expected, piece)
            # And the same for the second player.
            answer = sg_play(turned_move(128 * 41 + 44), turned(position))
            self.assertEqual(answer, [0] + turned(expected), piece)

    def test_taking_with_promotion(self):
        for piece in (1, 4, 5, 6, 9, 12, 14, 15):
            position = put_together({31: 4, 22: piece + 16, 8: 24, 72: 8})
            expected = put_together({22: 12, 8: 24, 72: 8}, {(piece - 1) % 8: 1}, turn=1, number=2)
            self.assertEqual(sg_play(16384 + 128 * 31 + 22, position), [0] + expected, piece)

    def test_the_king_takes(self):
        self.text_behind("8k/9/9/9/9/9/9/4+p4/4K4 b - 1", "5i5h", "8k/9/9/9/9/9/9/4K4/9 w P 2")
        self.text_behind("4k4/4G4/9/9/9/9/9/9/4K4 w 3G 10", "5a5b", "9/4k4/9/9/9/9/9/9/4K4 b 3Gg 11")

    def test_a_promoted_piece_stays_promoted(self):
        for piece in (9, 10, 11, 12, 14, 15):
            position = put_together({31: piece, 62: 24, 72: 8})
            answer = sg_play(128 * 31 + 22, position)
            self.assertEqual(answer, [0] + put_together({22: piece, 62: 24, 72: 8}, turn=1, number=2))

    def test_from_the_hand(self):
        for kind, letter in LETTERS.items():
            for amount in (1, 2):
                position = put_together({8: 24, 72: 8}, {kind - 1: amount})
                expected = put_together({8: 24, 72: 8, 41: kind}, {kind - 1: amount - 1}, turn=1, number=2)
                self.assertEqual(sg_play(128 * (80 + kind) + 41, position), [0] + expected, kind)
                self.assertEqual(sg_play(move_named(f"{letter}*4e"), position), [0] + expected, kind)
                position = put_together({8: 24, 72: 8}, {kind + 6: amount}, turn=1)
                expected = put_together({8: 24, 72: 8, 41: kind + 16}, {kind + 6: amount - 1}, turn=0, number=2)
                self.assertEqual(sg_play(128 * (80 + kind) + 41, position), [0] + expected, kind)

    # Every legal move, and the position behind it asked again.
    def test_every_legal_move(self):
        for text in ORDINARY:
            position = told(text)
            position[96] = 500
            for move in sg_moves(ALL, position)[1:]:
                answer = sg_play(move, position)
                self.assertEqual(answer, [0] + done(move, position), (text, move))
                self.assertGreaterEqual(sg_moves(ALL, answer[1:])[0], 0)

    def test_games_played_on(self):
        for seed in range(6):
            position = told(OPENING)
            chance = seed
            for turn in range(150):
                moves = moves_by_trying(position)
                self.assertEqual(sg_moves(ALL, position), [len(moves)] + moves, position)
                if not moves:
                    break
                chance = (chance * 1103515245 + 12345) % 2147483648
                move = moves[chance // 65536 % len(moves)]
                answer = sg_play(move, position)
                self.assertEqual(answer, [0] + done(move, position))
                position = answer[1:]

    # What is known of these positions from many other programs.
    def test_how_many_ways(self):
        for text, known in KNOWN_WAYS.items():
            for n in (1, 2):
                self.assertEqual(ways_by_playing(n, told(text)), known[n - 1], text)
        self.assertEqual(ways_by_playing(3, told(OPENING)), 25470)


class NotLegal(unittest.TestCase):
    def refused(self, text, names):
        for name in names.split():
            self.assertEqual(played(text, name), [-1], (text, name))

    def test_in_the_opening(self):
        self.refused(OPENING, "5e5d 5f5e 9a9b 3c3d 7a7b 8h7g 8h2b 2h2g 2h2b 2h8h 1i1g 8i7g 8i9g 2i3g 4i4g 5i5g 7g7e 7g8f 7g7g")
        self.refused(OPENING, "7g7h 7g7f+ 2h3h+ P*5e R*5e B*1f G*5d")

    def test_from_an_empty_square_and_of_the_others(self):
        text = "lnsgkgsnl/1r5b1/ppppppppp/9/9/2P6/PP1PPPPPP/1B5R1/LNSGKGSNL w - 2"
        self.refused(text, "2g2f 8h3c 8h3c+ 7f7e 5e5f 5i5h")
        self.assertEqual(played(text, "3c3d")[0], 0)

    def test_from_a_hand_that_has_none(self):
        for kind, letter in LETTERS.items():
            # The other has some of it.
            position = put_together({8: 24, 72: 8}, {kind + 6: 2})
            self.assertEqual(sg_play(move_named(f"{letter}*4e"), position), [-1])
            position = put_together({8: 24, 72: 8}, {kind - 1: 2}, turn=1)
            self.assertEqual(sg_play(move_named(f"{letter}*4e"), position), [-1])

    def test_a_promotion_from_the_hand(self):
        position = put_together({8: 24, 72: 8}, {place: 1 for place in range(14)})
        for kind in LETTERS:
            for target in (10, 22, 41, 77):
                self.assertEqual(sg_play(16384 + 128 * (80 + kind) + target, position), [-1])

    def test_promotions_that_are_none(self):
        text = "8k/9/9/3GS4/2P6/9/9/9/K4+P3 b - 1"
        self.refused(text, "7e7d+ 6d6c+ 6d5c+ 4i4h+ 9i9h+ 5d4e+")
        self.assertEqual(played(text, "5d5c+")[0], 0)
        text = "8k/4P4/1N7/9/3N5/2L6/9/9/K8 b - 1"
        self.refused(text, "5b5a 8c7a 8c9a 7f7a")
        for name in ("5b5a+", "8c7a+", "8c9a+", "7f7a+", "7f7b", "6e7c"):
            self.assertEqual(played(text, name)[0], 0, name)

    def test_from_the_hand_to_where_it_may_not(self):
        text = "8k/9/9/3p5/9/3P5/9/9/K8 b NLP 1"
        self.refused(text, "P*6e P*5a L*5a N*5a N*5b P*6d P*1a P*9i L*6f N*9i")
        for name in ("P*5b", "L*5b", "N*5c", "L*6e", "P*7i"):
            self.assertEqual(played(text, name)[0], 0, name)

    def test_what_leaves_the_king_in_check(self):
        self.refused("4r3k/9/9/9/9/9/4G4/9/4K4 b - 1", "5g4g 5g6g 5g4f 5g6f")
        self.refused("4r3k/9/9/9/9/9/9/9/4K4 b P 1", "P*4e P*1b 5i5h")
        self.refused("8k/9/9/9/9/9/4g4/9/4K4 b - 1", "5i5h 5i4h 5i6h")

    def test_mate_by_a_pawn_from_the_hand(self):
        self.refused("7nk/9/7G1/9/9/9/9/9/K8 b P 1", "P*1b")

    def test_no_moves_number_at_all(self):
        position = put_together({8: 24, 72: 8, 41: 7}, {place: 1 for place in range(13)})
        self.assertEqual(sg_play(128 * 41 + 40, position)[0], 0)
        for move in (
            128 * 41 + 81, 128 * 41 + 127, 128 * 80, 128 * 88 + 40, 128 * 127 + 40, 128 * 127 + 127, 16383, 16384, 32767,
            32768, 32768 + 128 * 41 + 40, 65536 + 128 * 41 + 40, 49152 + 128 * 41 + 14, 2147483648 + 128 * 41 + 40,
            4294934528 + 128 * 41 + 40, 4294967295, 4294967294, 4294967296 - 128, 0, 1, 80, 127,
        ):
            self.assertEqual(sg_play(move, position), [-1], move)

    def test_every_number(self):
        position = told("k8/9/9/4S4/9/9/9/9/r3K4 b P 7")
        legal = moves_by_trying(position)
        for move in range(32768 + 128):
            self.assertEqual(sg_play(move, position)[0], 0 if move in legal else -1, move)


class Numbers(unittest.TestCase):
    def test_up_to_65533(self):
        for number in (0, 1, 2, 255, 256, 65532, 65533):
            position = told(OPENING)[0:96] + [number]
            answer = sg_play(move_named("7g7f"), position)
            self.assertEqual(answer[0], 0, number)
            self.assertEqual(answer[97], number + 1)
            self.assertEqual(sg_play(move_named("7g7e"), position), [-1], number)

    def test_65534_and_more_before_all_but_what_cannot_be(self):
        for number in (65534, 65535):
            position = told(OPENING)[0:96] + [number]
            for move in (move_named("7g7f"), move_named("7g7e"), 0, 32768, ALL):
                self.assertEqual(sg_play(move, position), [-3], number)

    def test_no_legal_move(self):
        position = told("8k/9/9/9/9/9/4l4/4g4/4K4 b RBGSNLP 1")
        self.assertEqual(sg_play(move_named("5i5h"), position), [-1])
        self.assertEqual(sg_play(move_named("5i5h"), position[0:96] + [65534]), [-3])


class Answers(unittest.TestCase):
    def test_positions_that_cannot_be(self):
        for number in (1, 65533, 65534, 65535):
            for position in (
                [0] * 96 + [number], [255] * 96 + [number], told(OPENING)[0:95] + [2, number],
                put_together({4: 24, 13: 7, 76: 8}, number=number), put_together({4: 24, 76: 8}, {6: 3}, number=number),
                put_together({4: 24, 76: 8, 1: 2}, number=number), put_together({4: 24, 76: 8, 70: 19}, number=number),
            ):
                for move in (move_named("7g7f"), move_named("5i5h"), 0, 32768, ALL):
                    self.assertEqual(sg_play(move, position), [-2])

    def test_answers_whole_numbers_in_a_list(self):
        for move, position in ((move_named("7g7f"), told(OPENING)), (0, told(OPENING)), (0, [0] * 97)):
            answer = sg_play(move, position)
            self.assertIs(type(answer), list)
            self.assertTrue(all(type(number) is int for number in answer))

    def test_nothing_is_kept_and_nothing_changed(self):
        for text in ORDINARY:
            position = told(text)
            before = list(position)
            for move in (sg_moves(ALL, position) + [0])[1:4]:
                first = sg_play(move, position)
                self.assertEqual(position, before)
                kept = list(first)
                first.clear()
                self.assertEqual(sg_play(move, Unchangeable(position)), kept)
                sg_play(ALL, Unchangeable(position))
        sg_play(0, Unchangeable([0] * 97))
        sg_play(0, Unchangeable(told(OPENING)[0:96] + [65534]))


if __name__ == "__main__":
    unittest.main()
