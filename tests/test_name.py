"""Point 7, sg_name: how many bytes the move's text has, then these; -1 if there's no such number."""

import unittest

from komadai.board import sg_moves, sg_name, sg_play
from tests.helper import MATED, STUCK, TANGLED, codes, game_played_on, move_named, told, turned

PROMOTES = 16384
LETTERS = "PLNSGBR"

# Written out, so that no sum can be wrong in the program and here alike.
SQUARES = (
    "9a 8a 7a 6a 5a 4a 3a 2a 1a "
    "9b 8b 7b 6b 5b 4b 3b 2b 1b "
    "9c 8c 7c 6c 5c 4c 3c 2c 1c "
    "9d 8d 7d 6d 5d 4d 3d 2d 1d "
    "9e 8e 7e 6e 5e 4e 3e 2e 1e "
    "9f 8f 7f 6f 5f 4f 3f 2f 1f "
    "9g 8g 7g 6g 5g 4g 3g 2g 1g "
    "9h 8h 7h 6h 5h 4h 3h 2h 1h "
    "9i 8i 7i 6i 5i 4i 3i 2i 1i"
).split()


# The number put together as the document does it.
def number(source, target, more=0):
    return target + 128 * source + more


# The text that sg_name tells, or None if it refuses.
def text_named(move):
    answer = sg_name(move)
    if answer == [-1]:
        return None
    assert answer[0] == len(answer) - 1, (move, answer)
    return bytes(answer[1:]).decode("ascii")


class Texts(unittest.TestCase):
    def named(self, move, text):
        self.assertEqual(sg_name(move), [len(text)] + codes(text), move)

    def test_byte_by_byte(self):
        # 2h2b+: square 70 to square 16, promoting.
        self.assertEqual(sg_name(16 + 128 * 70 + 16384), [5, 50, 104, 50, 98, 43])
        # P*5e: a pawn to square 40.
        self.assertEqual(sg_name(40 + 128 * 81), [4, 80, 42, 53, 101])
        # 7g7f: square 56 to square 47.
        self.assertEqual(sg_name(47 + 128 * 56), [4, 55, 103, 55, 102])

    def test_nought(self):
        self.named(0, "9a9a")
        self.named(PROMOTES, "9a9a+")

    def test_the_four_corners(self):
        corners = {0: "9a", 8: "1a", 72: "9i", 80: "1i"}
        for source, source_name in corners.items():
            for target, target_name in corners.items():
                self.named(number(source, target), source_name + target_name)
                self.named(number(source, target, PROMOTES), source_name + target_name + "+")
        for target, target_name in corners.items():
            for kind, letter in enumerate(LETTERS, start=1):
                self.named(number(80 + kind, target), letter + "*" + target_name)

    def test_each_square_as_where_to(self):
        self.assertEqual(len(SQUARES), 81)
        for square, name in enumerate(SQUARES):
            self.named(number(40, square), "5e" + name)
            self.named(number(40, square, PROMOTES), "5e" + name + "+")

    def test_each_square_as_where_from(self):
        for square, name in enumerate(SQUARES):
            self.named(number(square, 40), name + "5e")
            self.named(number(square, 40, PROMOTES), name + "5e+")

    def test_from_a_square_to_itself(self):
        for square, name in enumerate(SQUARES):
            self.named(number(square, square), name + name)
            self.named(number(square, square, PROMOTES), name + name + "+")

    def test_each_kind_from_the_hand_to_each_square(self):
        starts = {81: "P*", 82: "L*", 83: "N*", 84: "S*", 85: "G*", 86: "B*", 87: "R*"}
        for source, start in starts.items():
            for square, name in enumerate(SQUARES):
                self.named(number(source, square), start + name)

    # No piece could ever go so, and none could come there from the hand, or promote there.
    def test_whatever_would_go(self):
        for text in ("9a1h", "5e5e+", "5e4e+", "1a9i+", "P*5a", "L*1a", "N*9b", "P*5i", "5a1i"):
            self.named(move_named(text), text)

    def test_how_many_bytes(self):
        for source in (0, 40, 80):
            for target in (0, 40, 80):
                self.assertEqual(sg_name(number(source, target))[0], 4)
                self.assertEqual(sg_name(number(source, target, PROMOTES))[0], 5)
        for source in range(81, 88):
            self.assertEqual(sg_name(number(source, 40))[0], 4)


class NoSuchNumber(unittest.TestCase):
    def refused(self, move):
        self.assertEqual(sg_name(move), [-1], move)

    def test_where_to(self):
        for source in (0, 40, 80, 81, 87):
            self.assertEqual(sg_name(number(source, 80))[0], 4)
            for target in range(81, 128):
                self.refused(number(source, target))
                self.refused(number(source, target, PROMOTES))

    def test_where_from(self):
        for target, name in ((0, "9a"), (40, "5e"), (80, "1i")):
            self.assertEqual(text_named(number(80, target)), "1i" + name)
            self.assertEqual(text_named(number(81, target)), "P*" + name)
            self.assertEqual(text_named(number(87, target)), "R*" + name)
            for source in range(88, 128):
                self.refused(number(source, target))
                self.refused(number(source, target, PROMOTES))

    def test_promoting_from_the_hand(self):
        for target, name in ((0, "9a"), (40, "5e"), (80, "1i")):
            self.assertEqual(text_named(number(80, target, PROMOTES)), "1i" + name + "+")
            for source in range(81, 88):
                self.refused(number(source, target, PROMOTES))

    def test_32768_and_more(self):
        self.assertEqual(text_named(number(80, 80, PROMOTES)), "1i1i+")
        for move in (32767, 32768, 32769, 49151, 49152, 65535, 65536, 2147483648, 4294967294, 4294967295):
            self.refused(move)

    # What is a number, once more with something ahead of it.
    def test_a_number_with_more_than_there_is(self):
        for text in ("7g7f", "2h2b+", "P*5e", "9a9a", "1i1i", "1i1i+"):
            move = move_named(text)
            self.assertEqual(text_named(move), text)
            for more in (32768, 65536, 98304, 1048576, 16777216, 2147483648, 4294934528):
                self.refused(move + more)

    def test_just_those_that_are_told_and_no_text_twice(self):
        texts = {}
        for move in range(32768):
            target, source, promotes = move % 128, move // 128 % 128, move // 16384
            wrong = target > 80 or source > 87 or promotes and source > 80
            text = text_named(move)
            self.assertEqual(text is None, bool(wrong), move)
            if text is not None:
                self.assertNotIn(text, texts, move)
                self.assertEqual(move_named(text), move)
                texts[text] = move
        self.assertEqual(len(texts), 2 * 81 * 81 + 7 * 81)


class Named(unittest.TestCase):
    def every_move_has_a_name(self, position):
        moves = sg_moves(4294967295, position)[1:]
        names = [text_named(move) for move in moves]
        self.assertNotIn(None, names)
        self.assertEqual([move_named(name) for name in names], moves)
        self.assertEqual(len(set(names)), len(moves))

    def test_every_legal_move(self):
        for text in TANGLED + MATED + STUCK:
            self.every_move_has_a_name(told(text))
            self.every_move_has_a_name(turned(told(text)))

    def test_every_legal_move_of_games_played_on(self):
        for seed in range(40, 44):
            for position in game_played_on(seed, 150):
                self.every_move_has_a_name(position)

    # Nothing but a number can be played, and the names of the moves of the opening are known.
    def test_what_has_no_name_is_not_played(self):
        position = told(TANGLED[0])
        names = []
        for move in range(40000):
            if text_named(move) is None:
                self.assertEqual(sg_play(move, position), [-1], move)
        for move in sg_moves(30, position)[1:]:
            names.append(text_named(move))
        pawns = [column + "g" + column + "f" for column in "123456789"]
        others = "1i1h 2h1h 2h3h 2h4h 2h5h 2h6h 2h7h 3i3h 3i4h 4i3h 4i4h 4i5h 5i4h 5i5h 5i6h 6i5h 6i6h 6i7h 7i6h 7i7h 9i9h"
        self.assertEqual(sorted(names), sorted(pawns + others.split()))


class Answers(unittest.TestCase):
    def test_answers_whole_numbers_in_a_list(self):
        for move in (0, 10408, 25360, 81, 11264, 26752, 32768, 4294967295):
            answer = sg_name(move)
            self.assertIs(type(answer), list)
            self.assertTrue(all(type(part) is int for part in answer))

    def test_nothing_is_kept(self):
        for move in (0, 10408, 25360, 81, 32768):
            first = sg_name(move)
            kept = list(first)
            first.clear()
            sg_name(16384)
            sg_name(4294967295)
            self.assertEqual(sg_name(move), kept)


if __name__ == "__main__":
    unittest.main()
