"""Point 3, sg_moves: all legal moves on the board by their numbers, the least first, or -3. What comes from the hand is
asked in test_hand_moves.py."""

import unittest

from komadai.board import sg_moves
from tests.helper import (
    OPENING, TANGLED, Unchangeable, move_named, moves_by_trying, name_of_square, names_of_moves, put_together,
    square_named, told, turned, turned_move,
)

ALL = 4294967295

# Where a piece of the first player goes from 5e on an empty board, a "+" behind where it promotes.
FROM_THE_MIDDLE = {
    "P": "5d",
    "L": "5d 5c 5c+ 5b 5b+ 5a+",
    "N": "4c 4c+ 6c 6c+",
    "S": "4d 5d 6d 4f 6f",
    "G": "4d 5d 6d 4e 6e 5f",
    "B": "4d 3c 3c+ 2b 2b+ 1a 1a+ 6d 7c 7c+ 8b 8b+ 9a 9a+ 4f 3g 2h 1i 6f 7g 8h 9i",
    "R": "5d 5c 5c+ 5b 5b+ 5a 5a+ 5f 5g 5h 5i 4e 3e 2e 1e 6e 7e 8e 9e",
    "+P": "4d 5d 6d 4e 6e 5f",
    "+L": "4d 5d 6d 4e 6e 5f",
    "+N": "4d 5d 6d 4e 6e 5f",
    "+S": "4d 5d 6d 4e 6e 5f",
    "+B": "4d 3c 2b 1a 6d 7c 8b 9a 4f 3g 2h 1i 6f 7g 8h 9i 5d 4e 6e 5f",
    "+R": "5d 5c 5b 5a 5f 5g 5h 5i 4e 3e 2e 1e 6e 7e 8e 9e 4d 6d 4f 6f",
    "K": "4d 5d 6d 4e 6e 4f 5f 6f",
}

# The same for the second player.
FROM_THE_MIDDLE_BACK = {
    "p": "5f",
    "l": "5f 5g 5g+ 5h 5h+ 5i+",
    "n": "4g 4g+ 6g 6g+",
    "s": "4f 5f 6f 4d 6d",
    "g": "4f 5f 6f 4e 6e 5d",
    "b": "4f 3g 3g+ 2h 2h+ 1i 1i+ 6f 7g 7g+ 8h 8h+ 9i 9i+ 4d 3c 2b 1a 6d 7c 8b 9a",
    "r": "5f 5g 5g+ 5h 5h+ 5i 5i+ 5d 5c 5b 5a 4e 3e 2e 1e 6e 7e 8e 9e",
    "+p": "4f 5f 6f 4e 6e 5d",
    "+l": "4f 5f 6f 4e 6e 5d",
    "+n": "4f 5f 6f 4e 6e 5d",
    "+s": "4f 5f 6f 4e 6e 5d",
    "+b": "4d 3c 2b 1a 6d 7c 8b 9a 4f 3g 2h 1i 6f 7g 8h 9i 5d 4e 6e 5f",
    "+r": "5d 5c 5b 5a 5f 5g 5h 5i 4e 3e 2e 1e 6e 7e 8e 9e 4d 6d 4f 6f",
    "k": "4d 5d 6d 4e 6e 4f 5f 6f",
}

def expected_from(square, targets):
    return sorted(square + target for target in targets.split())


class Opening(unittest.TestCase):
    # Worked out by hand: nine pawns, the rook to both sides, lances, silvers, golds, the king.
    NAMES = (
        "1g1f 2g2f 3g3f 4g4f 5g5f 6g6f 7g7f 8g8f 9g9f 2h1h 2h3h 2h4h 2h5h 2h6h 2h7h 1i1h 9i9h 3i3h 3i4h 7i6h 7i7h "
        "4i3h 4i4h 4i5h 6i5h 6i6h 6i7h 5i4h 5i5h 5i6h"
    )

    def test_first_to_move(self):
        numbers = sorted(move_named(name) for name in self.NAMES.split())
        self.assertEqual(len(numbers), 30)
        self.assertEqual(sg_moves(ALL, told(OPENING)), [30] + numbers)

    def test_second_to_move(self):
        text = OPENING.replace(" b ", " w ")
        numbers = sorted(turned_move(move_named(name)) for name in self.NAMES.split())
        self.assertEqual(sg_moves(ALL, told(text)), [30] + numbers)

    # 9g is square 54, 9f 45: from and to lie where the document says.
    def test_a_number_is_put_together_as_told(self):
        answer = sg_moves(ALL, told(OPENING))
        self.assertIn(128 * 54 + 45, answer[1:])
        self.assertIn(128 * 70 + 71, answer[1:])
        self.assertEqual(answer[1], 6957)

    def test_a_number_with_promotion(self):
        text = "lnsgkgsnl/1r5b1/pppppp1pp/6p2/9/2P6/PP1PPPPPP/1B5R1/LNSGKGSNL b - 3"
        answer = sg_moves(ALL, told(text))
        # From 8h, square 64, to 2b, square 16.
        self.assertIn(128 * 64 + 16, answer[1:])
        self.assertIn(16384 + 128 * 64 + 16, answer[1:])


class EachKind(unittest.TestCase):
    def test_first_player(self):
        for name, targets in FROM_THE_MIDDLE.items():
            kings = ("8k", "9") if name == "K" else ("8k", "K8")
            text = f"9/9/{kings[0]}/9/4{name}4/9/{kings[1]}/9/9 b - 1"
            self.assertEqual(names_of_moves(text, "5e"), expected_from("5e", targets), text)

    def test_second_player(self):
        for name, targets in FROM_THE_MIDDLE_BACK.items():
            kings = ("9", "K8") if name == "k" else ("8k", "K8")
            text = f"9/9/{kings[0]}/9/4{name}4/9/{kings[1]}/9/9 w - 1"
            self.assertEqual(names_of_moves(text, "5e"), expected_from("5e", targets), text)

    def test_at_the_edges(self):
        cases = {
            "9/9/4k4/9/9/9/4K4/9/G7G b - 1": {"9i": "9h 8h 8i", "1i": "1h 2h 2i"},
            "9/9/4k4/9/9/9/4K4/9/S7S b - 1": {"9i": "9h 8h", "1i": "1h 2h"},
            "9/9/4k4/9/9/9/4K4/9/N7N b - 1": {"9i": "8g", "1i": "2g"},
            "+S7+S/9/4k4/9/9/9/4K4/9/9 b - 1": {"9a": "9b 8a", "1a": "1b 2a"},
            "n7n/9/4k4/9/9/9/4K4/9/9 w - 1": {"9a": "8c", "1a": "2c"},
            "9/9/4k4/9/9/9/4K4/9/+r7+r w - 1": {
                "9i": "9a 9b 9c 9d 9e 9f 9g 9h 8h 2i 3i 4i 5i 6i 7i 8i", "1i": "1a 1b 1c 1d 1e 1f 1g 1h 2h 2i 3i 4i 5i 6i 7i 8i",
            },
            "9/9/k8/8+B/8+B/9/9/K8/9 b - 1": {
                "1d": "1c 2d 2c 3b 4a 2e 3f 4g 5h 6i", "1e": "1f 2e 2d 3c 4b 5a 2f 3g 4h 5i",
            },
        }
        for text, moves in cases.items():
            for square, targets in moves.items():
                self.assertEqual(names_of_moves(text, square), expected_from(square, targets), (text, square))

    def test_a_king_in_each_corner(self):
        for square, targets in ((0, "9b 8a 8b"), (8, "1b 2a 2b"), (72, "9h 8h 8i"), (80, "1h 2h 2i")):
            numbers = sorted(move_named(name_of_square(square) + target) for target in targets.split())
            self.assertEqual(sg_moves(ALL, put_together({square: 8, 40: 24})), [3] + numbers)
            self.assertEqual(sg_moves(ALL, put_together({square: 24, 40: 8}, turn=1)), [3] + numbers)


class Blocked(unittest.TestCase):
    def test_far_ones_by_their_own(self):
        ring = "8k/9/2G1S1G2/9/2S1{}1S2/9/2G1N1G2/9/K8 b - 1"
        cases = {"R": "5d 5f 4e 6e", "B": "4d 6d 4f 6f", "L": "5d", "+R": "5d 5f 4e 6e 4d 6d 4f 6f",
                 "+B": "4d 6d 4f 6f 5d 5f 4e 6e"}
        for name, targets in cases.items():
            text = ring.format(name)
            self.assertEqual(names_of_moves(text, "5e"), expected_from("5e", targets), text)

    def test_far_ones_by_the_others(self):
        ring = "8k/9/2g1s1g2/9/2s1{}1s2/9/2g1N1g2/9/K8 b - 1"
        cases = {
            "R": "5d 5c 5c+ 5f 4e 3e 6e 7e",
            "B": "4d 3c 3c+ 6d 7c 7c+ 4f 3g 6f 7g",
            "L": "5d 5c 5c+",
            "+R": "5d 5c 5f 4e 3e 6e 7e 4d 6d 4f 6f",
            "+B": "4d 3c 6d 7c 4f 3g 6f 7g 5d 5f 4e 6e",
        }
        for name, targets in cases.items():
            text = ring.format(name)
            self.assertEqual(names_of_moves(text, "5e"), expected_from("5e", targets), text)

    def test_near_ones_by_their_own_and_not_by_the_others(self):
        text = "8k/9/9/3GSG3/3S{}S3/4N4/9/9/K8 b - 1"
        for name in ("P", "G", "+P", "+L", "+N", "L"):
            self.assertEqual(names_of_moves(text.format(name), "5e"), [], name)
        text = "8k/9/9/3gsg3/3s{}s3/3lnl3/9/9/K8 b - 1"
        for name in ("P", "S", "G", "+P", "+L", "+N", "+S"):
            self.assertEqual(names_of_moves(text.format(name), "5e"), expected_from("5e", FROM_THE_MIDDLE[name]), name)

    def test_second_players_pieces(self):
        text = "8k/9/4g4/9/2g1r1G2/9/4G4/9/K8 w - 1"
        self.assertEqual(names_of_moves(text, "5e"), expected_from("5e", "5d 5f 5g 5g+ 4e 3e 6e"))
        text = "8k/9/2s3S2/9/4b4/9/2s3S2/9/K8 w - 1"
        self.assertEqual(names_of_moves(text, "5e"), expected_from("5e", "4d 3c 6d 4f 3g 3g+ 6f"))
        text = "8k/9/9/9/4l4/9/4g4/9/K8 w - 1"
        self.assertEqual(names_of_moves(text, "5e"), expected_from("5e", "5f"))
        text = "8k/9/9/9/4p4/4g4/9/9/K8 w - 1"
        self.assertEqual(names_of_moves(text, "5e"), [])

    def test_a_knight_goes_over_what_is_between(self):
        text = "8k/9/3g1S3/3gsg3/3sNs3/9/9/9/K8 b - 1"
        self.assertEqual(names_of_moves(text, "5e"), ["5e6c", "5e6c+"])
        text = "8k/9/9/9/3Sns3/3GSG3/3g1S3/9/K8 w - 1"
        self.assertEqual(names_of_moves(text, "5e"), ["5e4g", "5e4g+"])


class Promotion(unittest.TestCase):
    def test_to_from_and_within_the_last_rows(self):
        cases = {
            ("S", "5e"): "4d 5d 6d 4f 6f",
            ("S", "5d"): "4c 4c+ 5c 5c+ 6c 6c+ 4e 6e",
            ("S", "5c"): "4b 4b+ 5b 5b+ 6b 6b+ 4d 4d+ 6d 6d+",
            ("S", "5a"): "4b 4b+ 6b 6b+",
            ("P", "5e"): "5d",
            ("P", "5d"): "5c 5c+",
            ("P", "5c"): "5b 5b+",
            ("P", "5b"): "5a+",
            ("L", "5c"): "5b 5b+ 5a+",
            ("L", "5b"): "5a+",
            ("N", "5f"): "4d 6d",
            ("N", "5e"): "4c 4c+ 6c 6c+",
            ("N", "5d"): "4b+ 6b+",
            ("N", "5c"): "4a+ 6a+",
            ("G", "5d"): "4c 5c 6c 4d 6d 5e",
            ("G", "5b"): "4a 5a 6a 4b 6b 5c",
            ("+S", "5d"): "4c 5c 6c 4d 6d 5e",
            ("+P", "5b"): "4a 5a 6a 4b 6b 5c",
            ("+N", "5c"): "4b 5b 6b 4c 6c 5d",
            ("+L", "5c"): "4b 5b 6b 4c 6c 5d",
            ("B", "9a"): "8b 8b+ 7c 7c+ 6d 6d+ 5e 5e+ 4f 4f+ 3g 3g+ 2h 2h+ 1i 1i+",
            ("R", "5c"): "5a 5a+ 5b 5b+ 5d 5d+ 5e 5e+ 5f 5f+ 5g 5g+ 5h 5h+ 5i 5i+ 1c 1c+ 2c 2c+ 3c 3c+ 4c 4c+ 6c 6c+ "
                         "7c 7c+ 8c 8c+ 9c 9c+",
            ("R", "5d"): "5a 5a+ 5b 5b+ 5c 5c+ 5e 5f 5g 5h 5i 1d 2d 3d 4d 6d 7d 8d 9d",
        }
        kinds = {"P": 1, "L": 2, "N": 3, "S": 4, "G": 5, "B": 6, "R": 7, "+P": 9, "+L": 10, "+N": 11, "+S": 12}
        for (name, source), targets in cases.items():
            square = square_named(source)
            position = put_together({71: 8, 44: 24, square: kinds[name]})
            numbers = sorted(move_named(source + target) for target in targets.split())
            answer = sg_moves(ALL, position)
            self.assertEqual([move for move in answer[1:] if move // 128 % 128 == square], numbers, (name, source))
            answer = sg_moves(ALL, turned(position))
            numbers = sorted(turned_move(move) for move in numbers)
            self.assertEqual([move for move in answer[1:] if move // 128 % 128 == 80 - square], numbers, (name, source))

    def test_second_player_by_name(self):
        text = "9/9/4k4/9/9/1p7/p8/l8/4K4 w - 1"
        self.assertEqual(names_of_moves(text, "9g"), [])
        self.assertEqual(names_of_moves(text, "9h"), ["9h9i+"])
        self.assertEqual(names_of_moves(text, "8f"), ["8f8g", "8f8g+"])

    def test_by_taking(self):
        text = "3lgl3/4P4/9/9/9/9/9/9/K7k b - 1"
        self.assertEqual(names_of_moves(text, "5b"), ["5b5a+"])
        text = "9/4s4/4P4/9/9/9/9/9/K7k b - 1"
        self.assertEqual(names_of_moves(text, "5c"), ["5c5b", "5c5b+"])

    def test_no_king_promotes(self):
        text = "8k/9/4K4/9/9/9/9/9/9 b - 1"
        self.assertEqual(names_of_moves(text), expected_from("5c", "4b 5b 6b 4c 6c 4d 5d 6d"))


class Pinned(unittest.TestCase):
    def test_straight(self):
        text = "4r3k/9/9/9/9/9/4{}4/9/4K4 b - 1"
        cases = {"G": "5f 5h", "S": "5f", "N": "", "P": "5f", "L": "5f 5e 5d 5c 5c+ 5b 5b+ 5a+", "B": "",
                 "R": "5h 5f 5e 5d 5c 5c+ 5b 5b+ 5a 5a+", "+B": "5f 5h", "+R": "5h 5f 5e 5d 5c 5b 5a", "+N": "5f 5h"}
        for name, targets in cases.items():
            self.assertEqual(names_of_moves(text.format(name), "5g"), expected_from("5g", targets), name)

    def test_aside(self):
        text = "8k/9/9/9/9/9/9/9/r2{}K4 b - 1"
        cases = {"G": "7i", "S": "", "L": "", "N": "", "P": "", "B": "", "R": "7i 8i 9i", "+R": "7i 8i 9i", "+B": "7i"}
        for name, targets in cases.items():
            self.assertEqual(names_of_moves(text.format(name), "6i"), expected_from("6i", targets), name)

    def test_aslant(self):
        text = "8k/9/9/9/8b/9/9/5{}3/4K4 b - 1"
        cases = {"G": "3g", "S": "3g", "P": "", "N": "", "L": "", "R": "", "B": "3g 2f 1e", "+R": "3g", "+B": "3g 2f 1e"}
        for name, targets in cases.items():
            self.assertEqual(names_of_moves(text.format(name), "4h"), expected_from("4h", targets), name)

    def test_from_behind(self):
        text = "4K4/9/4G4/9/9/9/9/4r4/8k b - 1"
        self.assertEqual(names_of_moves(text, "5c"), ["5c5b", "5c5d"])
        text = "k8/9/9/9/4K4/3S5/9/1+b7/9 b - 1"
        self.assertEqual(names_of_moves(text, "6f"), ["6f7g"])

    def test_by_a_lance(self):
        text = "4l3k/9/9/9/9/9/4S4/9/4K4 b - 1"
        self.assertEqual(names_of_moves(text, "5g"), ["5g5f"])
        # A lance doesn't go aside, nor back.
        text = "8k/9/9/9/9/9/9/l3SK3/9 b - 1"
        self.assertEqual(names_of_moves(text, "5h"), expected_from("5h", "4g 5g 6g 4i 6i"))
        text = "8k/9/4K4/9/4S4/9/9/4l4/9 b - 1"
        self.assertEqual(names_of_moves(text, "5e"), expected_from("5e", "4d 5d 6d 4f 6f"))

    def test_second_player(self):
        text = "4k4/9/4g4/9/9/4R4/9/9/K8 w - 1"
        self.assertEqual(names_of_moves(text, "5c"), ["5c5b", "5c5d"])
        text = "4k4/4s4/9/9/9/9/9/4L4/K8 w - 1"
        self.assertEqual(names_of_moves(text, "5b"), ["5b5c"])

    def test_not_pinned(self):
        free = expected_from("5g", "4f 5f 6f 4g 6g 5h")
        for column in ("4r3k/9/9/9/4g4/9", "4r3k/9/9/9/4P4/9", "4b3k/9/9/9/9/9", "8k/9/9/9/9/4g4", "8k/9/9/9/9/4+b4",
                       "8k/9/9/9/9/4p4", "9/4R4/8k/9/9/9", "8k/9/9/9/9/9"):
            text = f"{column}/4G4/9/4K4 b - 1"
            self.assertEqual(names_of_moves(text, "5g"), free, text)

    def test_near_ones_of_promoted_pieces_pin_nothing(self):
        text = "8k/9/9/9/9/9/6+r2/5G3/4K4 b - 1"
        self.assertEqual(names_of_moves(text, "4h"), expected_from("4h", "3g 4g 5g 3h 5h 4i"))
        text = "8k/9/9/9/9/9/4+b4/4G4/4K4 b - 1"
        self.assertEqual(names_of_moves(text, "5h"), expected_from("5h", "4g 5g 6g 4h 6h"))

    def test_a_pinned_piece_does_not_help_against_a_check(self):
        # The gold could take the knight that gives check, were there no rook.
        text = "4r3k/9/9/9/9/9/3n5/4G4/4K4 b - 1"
        self.assertEqual(names_of_moves(text), expected_from("5i", "4h 6h 4i 6i"))
        text = "8k/9/9/9/9/9/3n5/4G4/4K4 b - 1"
        self.assertIn("5h6g", names_of_moves(text))


class Check(unittest.TestCase):
    def test_by_a_far_one(self):
        text = "4r3k/9/9/9/9/9/9/5G3/4K4 b P 1"
        expected = "5i4i 5i6i 5i6h 4h5g 4h5h P*5b P*5c P*5d P*5e P*5f P*5g P*5h"
        self.assertEqual(names_of_moves(text), sorted(expected.split()))

    def test_by_a_near_one(self):
        text = "8k/9/9/9/9/9/9/4g4/4K4 b RBGSNLP 1"
        self.assertEqual(names_of_moves(text), ["5i5h"])

    def test_by_a_knight(self):
        text = "8k/9/9/9/9/9/5n3/6G2/4K4 b R 1"
        self.assertEqual(names_of_moves(text), sorted("5i4h 5i5h 5i6h 5i4i 5i6i 3h4g".split()))

    def test_by_two(self):
        text = "4r3k/9/9/9/9/9/5n3/6G2/4K4 b RP 1"
        self.assertEqual(names_of_moves(text), expected_from("5i", "4h 6h 4i 6i"))
        # The king takes one of them and is out of the other's way; the silver takes it and is not.
        text = "8k/9/9/8b/9/6S2/5+p3/4K4/4r4 b G 1"
        self.assertIn("5h4g", names_of_moves(text))
        self.assertEqual(names_of_moves(text, "3f"), [])
        self.assertEqual(names_of_moves(text, "G"), [])

    def test_the_king_does_not_stay_in_the_way(self):
        text = "4r3k/9/9/9/4K4/9/9/9/9 b - 1"
        self.assertEqual(names_of_moves(text), expected_from("5e", "4d 6d 4e 6e 4f 6f"))
        text = "k7b/9/9/9/4K4/9/9/9/9 b - 1"
        self.assertEqual(names_of_moves(text), expected_from("5e", "5d 6d 4e 6e 4f 5f"))

    def test_the_king_takes_what_is_not_kept(self):
        self.assertEqual(names_of_moves("8k/9/9/9/9/9/9/4g4/4K4 b - 1"), ["5i5h"])
        for keepers in ("9/4l4/4g4", "3n5/9/4g4", "9/4p4/4g4", "9/3s5/4g4", "9/9/4gr3", "9/6b2/4g4", "6b2/9/4g4",
                        "9/9/3+pg4", "9/9/4g3r", "4r4/9/4g4", "9/4+b4/4g4", "9/3+r5/4g4"):
            text = f"8k/9/9/9/9/{keepers}/4K4 b - 1"
            expected = ["5i5h"] if keepers == "9/6b2/4g4" else []
            self.assertEqual(names_of_moves(text), expected, text)

    def test_where_the_other_king_stands_near(self):
        text = "9/9/4k4/9/4K4/9/9/9/9 b - 1"
        self.assertEqual(names_of_moves(text), expected_from("5e", "4e 6e 4f 5f 6f"))
        text = "9/9/4k4/9/4K4/9/9/9/9 w - 1"
        self.assertEqual(names_of_moves(text), expected_from("5c", "4b 5b 6b 4c 6c"))

    def test_second_player(self):
        text = "4k4/9/9/9/9/9/9/9/K3R4 w g 1"
        expected = "5a4a 5a6a 5a4b 5a6b G*5b G*5c G*5d G*5e G*5f G*5g G*5h"
        self.assertEqual(names_of_moves(text), sorted(expected.split()))

    def test_no_legal_move(self):
        # In check and not.
        self.assertEqual(sg_moves(ALL, told("8k/9/9/9/9/9/4l4/4g4/4K4 b - 1")), [0])
        self.assertEqual(sg_moves(0, told("8k/9/9/9/9/9/4l4/4g4/4K4 b RBGSNLP 1")), [0])
        self.assertEqual(sg_moves(0, told("8k/9/9/9/9/9/1s7/2g6/K8 b - 1")), [0])


class Most(unittest.TestCase):
    def test_as_many_as_there_are_and_one_less(self):
        position = told(OPENING)
        self.assertEqual(sg_moves(30, position)[0], 30)
        self.assertEqual(len(sg_moves(30, position)), 31)
        self.assertEqual(sg_moves(31, position), sg_moves(30, position))
        self.assertEqual(sg_moves(29, position), [-3])
        self.assertEqual(sg_moves(0, position), [-3])

    def test_many(self):
        position = told("R8/2K1S1SSk/4B4/9/9/9/9/9/1L1L1L3 b RBGSNLP3g3n17p 1")
        self.assertEqual(sg_moves(593, position)[0], 593)
        self.assertEqual(sg_moves(592, position), [-3])
        self.assertEqual(sg_moves(ALL, position), sg_moves(593, position))

    def test_only_what_is_legal_counts(self):
        # One pawn from the hand would give mate.
        position = told("7nk/9/7G1/9/9/9/9/9/K8 b P 1")
        count = len(moves_by_trying(position))
        self.assertEqual(sg_moves(count, position)[0], count)
        self.assertEqual(sg_moves(count - 1, position), [-3])


class Answers(unittest.TestCase):
    def test_the_number_is_not_looked_at(self):
        expected = sg_moves(ALL, told(OPENING))
        for number in (0, 1, 2, 65533, 65534, 65535):
            self.assertEqual(sg_moves(ALL, told(OPENING)[0:96] + [number]), expected)

    def test_the_least_first(self):
        for text in TANGLED:
            moves = sg_moves(ALL, told(text))[1:]
            self.assertEqual(moves, sorted(set(moves)), text)

    def test_all_that_can_be_tried(self):
        for text in TANGLED:
            position = told(text)
            moves = moves_by_trying(position)
            self.assertEqual(sg_moves(ALL, position), [len(moves)] + moves, text)

    def test_the_same_for_the_other_player(self):
        for text in TANGLED:
            position = told(text)
            moves = sorted(turned_move(move) for move in sg_moves(ALL, position)[1:])
            self.assertEqual(sg_moves(ALL, turned(position)), [len(moves)] + moves, text)

    def test_positions_that_cannot_be(self):
        for position in (
            [0] * 97, [255] * 96 + [65535], put_together({4: 24}), put_together({4: 24, 76: 8}, turn=2),
            put_together({4: 24, 76: 8}, {0: 19}), put_together({4: 24, 13: 7, 76: 8}), put_together({4: 24, 5: 1, 76: 8}),
            put_together({4: 24, 67: 23, 76: 8}, turn=1), put_together({4: 24, 76: 8, 40: 13}),
            put_together({4: 24, 76: 8, 40: 1, 49: 1}), put_together({4: 24, 76: 8}, turn=255, number=65535),
        ):
            for most in (0, 1, 1000, ALL):
                self.assertEqual(sg_moves(most, position), [-2])

    def test_answers_whole_numbers_in_a_list(self):
        for most, position in ((ALL, told(OPENING)), (0, told(OPENING)), (0, [0] * 97)):
            answer = sg_moves(most, position)
            self.assertIs(type(answer), list)
            self.assertTrue(all(type(number) is int for number in answer))

    def test_nothing_is_kept_and_nothing_changed(self):
        for text in TANGLED:
            position = told(text)
            before = list(position)
            first = sg_moves(ALL, position)
            self.assertEqual(position, before)
            kept = list(first)
            first.clear()
            sg_moves(ALL, turned(position))
            self.assertEqual(sg_moves(ALL, position), kept)
            sg_moves(ALL, Unchangeable(position))
            sg_moves(0, Unchangeable(position))
        sg_moves(0, Unchangeable([0] * 97))


if __name__ == "__main__":
    unittest.main()
