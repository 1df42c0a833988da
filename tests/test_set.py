"""Point 1, sg_set: 0 and the position, or -1 for a text that tells none."""

import unittest

from komadai.board import sg_set
from tests.helper import OPENING, ORDINARY, Unchangeable, answer_to, codes, text_from

BOARD = "4k4/9/9/9/9/9/9/9/4K4"


class Told(unittest.TestCase):
    def test_opening_number_by_number(self):
        back = [18, 19, 20, 21, 24, 21, 20, 19, 18]
        expected = [0]
        expected += back
        expected += [0, 23, 0, 0, 0, 0, 0, 22, 0]
        expected += [17] * 9 + [0] * 27 + [1] * 9
        expected += [0, 6, 0, 0, 0, 0, 0, 7, 0]
        expected += [piece - 16 for piece in back]
        expected += [0] * 14 + [0, 1]
        self.assertEqual(answer_to(OPENING), expected)

    def test_hands_turn_and_number(self):
        answer = answer_to("4k4/9/9/9/9/9/9/9/4K4 w 2RB3G2S4NL12Pbgs3l6p 513")
        self.assertEqual(answer[0], 0)
        self.assertEqual(answer[1 + 81:1 + 95], [12, 1, 4, 2, 3, 1, 2, 6, 3, 0, 1, 1, 1, 0])
        self.assertEqual(answer[1 + 95:], [1, 513])

    def test_one_of_each_in_hand_has_its_place(self):
        for place, letter in enumerate("PLNSGBRplnsgbr"):
            hands = [0] * 14
            hands[place] = 1
            answer = answer_to(f"{BOARD} b {letter} 1")
            self.assertEqual(answer[0], 0, letter)
            self.assertEqual(answer[82:96], hands, letter)

    def test_each_piece_has_its_number(self):
        numbers = {
            "P": 1, "L": 2, "N": 3, "S": 4, "G": 5, "B": 6, "R": 7,
            "+P": 9, "+L": 10, "+N": 11, "+S": 12, "+B": 14, "+R": 15,
            "p": 17, "l": 18, "n": 19, "s": 20, "g": 21, "b": 22, "r": 23,
            "+p": 25, "+l": 26, "+n": 27, "+s": 28, "+b": 30, "+r": 31,
        }
        for name, number in numbers.items():
            answer = answer_to(f"k8/9/9/9/3{name}5/9/9/9/7K1 b - 1")
            self.assertEqual(answer[0], 0, name)
            self.assertEqual(answer[1 + 4 * 9 + 3], number, name)

    def test_kings_have_their_numbers(self):
        answer = answer_to("3k5/9/9/9/9/9/9/9/5K3 b - 1")
        self.assertEqual(answer[1 + 3], 24)
        self.assertEqual(answer[1 + 8 * 9 + 5], 8)

    def test_there_and_back_again(self):
        for text in ORDINARY:
            answer = answer_to(text)
            self.assertEqual(answer[0], 0, text)
            self.assertEqual(len(answer), 98, text)
            self.assertEqual(text_from(answer[1:]), text)

    def test_greatest_and_least_number(self):
        self.assertEqual(answer_to(f"{BOARD} b - 1")[97], 1)
        self.assertEqual(answer_to(f"{BOARD} b - 9")[97], 9)
        self.assertEqual(answer_to(f"{BOARD} b - 10")[97], 10)
        self.assertEqual(answer_to(f"{BOARD} b - 65534")[97], 65534)

    def test_answers_whole_numbers_in_a_list(self):
        for text in (OPENING, "", "9 b - 1", f"{BOARD} b 19P 1"):
            answer = answer_to(text)
            self.assertIs(type(answer), list)
            self.assertTrue(all(type(number) is int for number in answer))

    def test_a_refusal_is_its_number_alone(self):
        self.assertEqual(answer_to("x"), [-1])
        self.assertEqual(answer_to("9/9/9/9/9/9/9/9/9 b - 1"), [-2])

    def test_nothing_is_kept_and_nothing_changed(self):
        handed = codes(OPENING)
        first = sg_set(handed)
        self.assertEqual(handed, codes(OPENING))
        kept = list(first)
        first[1:] = [99] * 97
        self.assertEqual(sg_set(handed), kept)
        for text in (OPENING, "", "9/9", f"{BOARD} b 19P 1", f"{BOARD} b 1P 1"):
            sg_set(Unchangeable(codes(text)))


class NotTold(unittest.TestCase):
    def refused(self, texts):
        for text in texts:
            self.assertEqual(answer_to(text), [-1], text)

    def test_parts(self):
        self.refused((
            "", " ", "   ", "-", "1", "b", BOARD, f"{BOARD} b", f"{BOARD} b -", f"{BOARD} b - ",
            f"{BOARD}  b - 1", f"{BOARD} b  - 1", f"{BOARD} b -  1", f" {BOARD} b - 1", f"{BOARD} b - 1 ",
            f"{BOARD} b - 1\n", f"{BOARD} b - 1 1", f"{BOARD}\tb - 1", f"{BOARD} b - 1\0", f"{BOARD}b-1",
            f"b {BOARD} - 1", f"{BOARD} - b 1", f"{BOARD} b 1 -", f"{BOARD} b 1", " b - 1", "/ b - 1",
            f"sfen {BOARD} b - 1", "startpos",
        ))

    def test_opening_cut_anywhere(self):
        for length in range(len(OPENING)):
            self.assertEqual(sg_set(codes(OPENING)[:length]), [-1], length)

    def test_rows(self):
        boards = (
            "4k4/9/9/9/9/9/9/4K4", "4k4/9/9/9/9/9/9/9/4K4/9", "4k4/9/9/9/9/9/9/9/4K4/", "/4k4/9/9/9/9/9/9/9/4K4",
            "4k4//9/9/9/9/9/9/9/4K4", "4k4//9/9/9/9/9/9/4K4", "4k3/9/9/9/9/9/9/9/4K4", "4k5/9/9/9/9/9/9/9/4K4",
            "4k4/9/9/9/9/9/9/9/4K3", "4k4/9/9/9/9/9/9/9/4K5", "4k3/9/9/9/9/9/9/9/4K41", "4k49/9/9/9/9/9/9/4K4",
            "4k4/9/9/8P/9P/9/9/9/4K4", "4k4/9/9/9/8/P9/9/9/4K4", "4k4/9/9/9/9/9/9/94K4", "4k4/81/9/9/9/9/9/9/4K4",
            "4k4 9 9 9 9 9 9 9 4K4", "4k4-9-9-9-9-9-9-9-4K4", "4k4/9/9/9/9/9/9/9/PPPPKPPPPP",
        )
        self.refused([f"{board} b - 1" for board in boards])

    def test_gaps(self):
        boards = (
            "13k4/9/9/9/9/9/9/9/4K4", "4k4/9/9/9/45/9/9/9/4K4", "4k4/9/9/9/111111111/9/9/9/4K4",
            "4k4/9/9/9/90/9/9/9/4K4", "4k4/9/9/9/09/9/9/9/4K4", "4k04/9/9/9/9/9/9/9/4K4", "4k4/9/9/9/9/9/9/9/4K22",
            "4k4/9/9/9/        /9/9/9/4K4", "4k4/9/9/9/........./9/9/9/4K4", "04k4/9/9/9/9/9/9/9/4K4",
        )
        self.refused([f"{board} b - 1" for board in boards])

    def test_pieces(self):
        for name in ("+", "++P", "+G", "+g", "+K", "+k", "P+", "+1", "T", "X", "x", "w", "W", "A", "-", "*", "?",
                     "O", "0", "\0", "\x7f", "\x80", "\xd0", "\xff", "p\n", "+ P", "+/P"):
            self.refused((f"4k4/9/9/9/4{name}4/9/9/9/4K4 b - 1", f"4k4/9/9/9/8{name}/9/9/9/4K4 b - 1",
                          f"4k4/9/9/9/{name}8/9/9/9/4K4 b - 1"))
        self.refused(("+4k4/9/9/9/9/9/9/9/4K4 b - 1", "4k4/9/9/9/9/9/9/9/4K4+ b - 1", "4k4/9/9+/9/9/9/9/9/4K4 b - 1",
                      "4k4/9/9/+9/9/9/9/9/4K4 b - 1", "4k4/9/9/+/P8/9/9/9/4K4 b - 1", "4+k4/9/9/9/9/9/9/9/4K4 b - 1"))

    def test_turn(self):
        self.refused([f"{BOARD} {turn} - 1" for turn in ("B", "W", "", "-", "0", "1", "bw", "bb", "ww", "x", "b-", "+b")])

    def test_hands(self):
        hands = (
            "", "--", "-P", "P-", "0", "1", "2", "0P", "1P", "01P", "02P", "00P", "P2", "P0", "PP", "P2P", "2PP", "pp",
            "K", "k", "2K", "Kk", "PK", "+P", "2+P", "+p", "p+", "P p", "pP", "2p2P", "rR", "BR", "GB", "SG", "NS", "LN",
            "PL", "br", "gb", "sg", "ns", "ln", "pl", "PR", "pr", "RBGSNPL", "RPR", "rpr", "RBGSNLPrbgsnpl", "PpP", "RrB",
            "w", "W", "x", "X", "P/", "P,p", "P|p", "P3", "R2B3", "R0B", "R1B", "-1P", "+2P", "P\0", "\xb9P",
        )
        self.refused([f"{BOARD} b {hand} 1" for hand in hands])
        # The second player's bishop in hand looks like a turn, and is none.
        self.assertEqual(answer_to(f"{BOARD} b b 1")[0], 0)

    # A position has no more than 255 of a kind in a hand: what tells more tells no position.
    def test_more_than_a_hand_has_room_for(self):
        for amount in ("256", "257", "258", "300", "511", "512", "1000", "65535", "65536", "65537", "4294967297"):
            for letter in "RBGSNLPrbgsnlp":
                self.refused((f"{BOARD} b {amount}{letter} 1",))
            self.refused((f"{BOARD} w {amount}RP 1", f"{BOARD} b R{amount}p 1", f"{BOARD} w 255R{amount}B255p 1"))
        for letter in "RBGSNLPrbgsnlp":
            self.assertEqual(answer_to(f"{BOARD} b 255{letter} 1"), [-2], letter)
            self.assertEqual(answer_to(f"{BOARD} b 19{letter} 1"), [-2], letter)
        self.assertEqual(answer_to(f"{BOARD} b 18P 1")[0], 0)

    def test_every_wrong_order_of_two_letters(self):
        order = "RBGSNLPrbgsnlp"
        for first in range(14):
            for second in range(14):
                expected = 0 if first < second else -1
                text = f"{BOARD} b {order[first]}{order[second]} 1"
                self.assertEqual(answer_to(text)[0], expected, text)
                text = f"{BOARD} b 2{order[first]}2{order[second]} 1"
                kinds_fit = order[first] in "GSNLPgsnlp" or order[first].lower() != order[second].lower()
                self.assertEqual(answer_to(text)[0], expected if expected < 0 or kinds_fit else -2, text)

    def test_number(self):
        numbers = (
            "", "0", "00", "01", "001", "65535", "65536", "065534", "100000", "131071", "4294967297", "9" * 150,
            "-1", "+1", "-", "1.", "1.0", "1e3", "0x1", "a", "1a", "a1", "1-", "1/", "w", "1_0", "\xb2", "1\xb2", "1\0",
        )
        self.refused([f"{BOARD} b - {number}" for number in numbers])

    def test_one_byte_of_the_opening_made_another(self):
        # Only these bytes can be another one, and the text still tells something.
        telling = codes("BGKLNPRSbgklnprsw123456789")
        for place in range(len(OPENING)):
            for code in range(256):
                changed = codes(OPENING)
                changed[place] = code
                if code not in telling and code != ord(OPENING[place]):
                    self.assertEqual(sg_set(changed), [-1], (place, code))

    def test_before_what_cannot_be(self):
        self.refused((
            "9/9/9/9/9/9/9/9/9 b - 0", "9/9/9/9/9/9/9/9/9 b - 65535", "9/9/9/9/9/9/9/9/9 x - 1",
            "9/9/9/9/9/9/9/9/9 b 1P 1", "9/9/9/9/9/9/9/9/9 b 19P2R1B 1", f"{BOARD} b 19P 65535",
            "9/9/9/9/9/9/9/9/9 b 256P 1", f"{BOARD} b 255P256p 1",
        ))

    def test_text_of_256_bytes(self):
        self.assertEqual(sg_set([32] * 256), [-1])
        self.assertEqual(sg_set([57] * 256), [-1])
        self.assertEqual(sg_set([255] * 256), [-1])
        self.assertEqual(sg_set([0] * 256), [-1])
        for text in (f"{BOARD} b - {'1' * 300}", f"{BOARD} b - 1{' ' * 300}", f"{BOARD} b {'P' * 300}", "+P" * 200):
            self.assertEqual(sg_set(codes(text)[:256]), [-1])

    def test_the_longest_that_tells_something(self):
        board = "/".join(["+P" * 9] * 9)
        hands = "".join("255" + letter for letter in "RBGSNLPrbgsnlp")
        text = f"{board} w {hands} 65534"
        self.assertEqual(len(text), 235)
        self.assertEqual(answer_to(text), [-2])

    def test_256_bytes_and_more(self):
        for length in (255, 256, 257, 5000):
            start = f"{BOARD} b "
            text = start + "9" * (length - len(start) - len("P 1")) + "P 1"
            self.assertEqual(len(text), length)
            self.assertEqual(answer_to(text), [-1])


if __name__ == "__main__":
    unittest.main()
