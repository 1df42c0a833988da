"""Point 2, sg_text: how many bytes the position's text has, then these."""

import unittest

from komadai.board import sg_text
from tests.helper import OPENING, ORDINARY, Unchangeable, answer_to, codes, put_together, text_from

KINGS = {4: 24, 76: 8}


class Text(unittest.TestCase):
    def test_opening(self):
        back = [18, 19, 20, 21, 24, 21, 20, 19, 18]
        position = back + [0, 23, 0, 0, 0, 0, 0, 22, 0] + [17] * 9 + [0] * 27 + [1] * 9
        position += [0, 6, 0, 0, 0, 0, 0, 7, 0] + [piece - 16 for piece in back] + [0] * 14 + [0, 1]
        self.assertEqual(sg_text(position), [len(OPENING)] + codes(OPENING))

    def test_gaps(self):
        self.assertEqual(text_from(put_together({0: 24, 80: 8})), "k8/9/9/9/9/9/9/9/8K b - 1")
        self.assertEqual(text_from(put_together({8: 24, 72: 8})), "8k/9/9/9/9/9/9/9/K8 b - 1")
        board = {0: 24, 30: 1, 32: 17, 38: 1, 80: 8}
        self.assertEqual(text_from(put_together(board)), "k8/9/9/3P1p3/2P6/9/9/9/8K b - 1")

    def test_promoted_pieces_of_both(self):
        board = {0: 24, 80: 8}
        for square, piece in enumerate((9, 10, 11, 12, 14, 15, 25, 26, 27), start=27):
            board[square] = piece
        for square, piece in enumerate((28, 30, 31), start=40):
            board[square] = piece
        text = "k8/9/9/+P+L+N+S+B+R+p+l+n/4+s+b+r2/9/9/9/8K b - 1"
        self.assertEqual(text_from(put_together(board)), text)

    def test_hands(self):
        letters = "PLNSGBRplnsgbr"
        for place, letter in enumerate(letters):
            most = 18 if letter in "Pp" else 2 if letter in "BRbr" else 4
            self.assertEqual(text_from(put_together(KINGS, {place: 1})), f"4k4/9/9/9/9/9/9/9/4K4 b {letter} 1")
            for amount in range(2, most + 1):
                text = f"4k4/9/9/9/9/9/9/9/4K4 b {amount}{letter} 1"
                self.assertEqual(text_from(put_together(KINGS, {place: amount})), text)

    def test_order_of_hands(self):
        hands = {place: 1 for place in range(14)}
        text = "4k4/9/9/9/9/9/9/9/4K4 b RBGSNLPrbgsnlp 1"
        self.assertEqual(text_from(put_together(KINGS, hands)), text)
        hands = {0: 10, 2: 3, 4: 2, 6: 1, 7: 8, 8: 4, 10: 2, 12: 2, 13: 1}
        text = "4k4/9/9/9/9/9/9/9/4K4 w R2G3N10Pr2b2s4l8p 1"
        self.assertEqual(text_from(put_together(KINGS, hands, turn=1)), text)

    def test_turn(self):
        self.assertEqual(text_from(put_together(KINGS, turn=0)), "4k4/9/9/9/9/9/9/9/4K4 b - 1")
        self.assertEqual(text_from(put_together(KINGS, turn=1)), "4k4/9/9/9/9/9/9/9/4K4 w - 1")

    def test_the_number_is_not_looked_at(self):
        for number in (0, 1, 9, 10, 255, 256, 9999, 65533, 65534, 65535):
            text = f"4k4/9/9/9/9/9/9/9/4K4 b - {number}"
            self.assertEqual(text_from(put_together(KINGS, number=number)), text)

    def test_there_and_back_again(self):
        for text in ORDINARY:
            position = answer_to(text)[1:]
            answer = sg_text(position)
            self.assertEqual(answer, [len(text)] + codes(text))

    def test_answers_whole_numbers_in_a_list(self):
        for position in (put_together(KINGS), put_together({})):
            answer = sg_text(position)
            self.assertIs(type(answer), list)
            self.assertTrue(all(type(number) is int for number in answer))

    def test_nothing_is_kept_and_nothing_changed(self):
        position = put_together(KINGS, {0: 3}, 1, 17)
        before = list(position)
        first = sg_text(position)
        self.assertEqual(position, before)
        kept = list(first)
        first.clear()
        self.assertEqual(sg_text(put_together({})), [-2])
        self.assertEqual(sg_text(position), kept)
        for position in (put_together(KINGS), put_together({}), put_together({4: 24, 13: 7, 76: 8})):
            sg_text(Unchangeable(position))


if __name__ == "__main__":
    unittest.main()
