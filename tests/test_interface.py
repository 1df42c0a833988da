"""What the document promises over the whole program: names, arguments and kinds of the calls, nothing changed that is
handed in, nothing kept from one call to the next, nothing printed, read or imported."""

import contextlib
import copy
import inspect
import io
import pathlib
import subprocess
import sys
import unittest
from unittest import mock

import komadai.board
from tests.helper import (
    MATED, OPENING, STUCK, TANGLED, Unchangeable, codes, game_played_on, move_named, positions_that_cannot_be, text_from,
    told,
)

ROOT = pathlib.Path(__file__).resolve().parent.parent
MOST = 4294967295

ARGUMENTS = {
    "sg_set": ["text"], "sg_text": ["position"], "sg_moves": ["most", "position"], "sg_play": ["move", "position"],
    "sg_count": ["n", "position"], "sg_state": ["position"], "sg_name": ["move"],
}

# For a new Python, that has called nothing before.
ALONE = """
import sys
from komadai import board
calls = eval(sys.stdin.read())
print([getattr(board, name)(*arguments) for name, arguments in calls])
"""

IMPORTED = """
import sys
before = set(sys.modules)
import komadai.board
calls = eval(sys.stdin.read())
for name, arguments in calls:
    getattr(komadai.board, name)(*arguments)
print(sorted(name for name in set(sys.modules) - before if name.split(".")[0] != "komadai"))
"""


# Each call with what it answers and with what it refuses, as a name and a list of arguments.
def calls():
    found = []
    for text in (OPENING, OPENING[1:], "", "9/9/9/9/9/9/9/9/9 b - 1", OPENING + "0", "K" * 256):
        found.append(("sg_set", [codes(text)]))
    positions = [told(text) for text in TANGLED[0:5] + MATED[0:2] + STUCK]
    positions += [position[0:96] + [65534] for position in positions[0:2]]
    for position in positions + list(positions_that_cannot_be(1)):
        found.append(("sg_text", [position]))
        found.append(("sg_state", [position]))
        for most in (0, 30, MOST):
            found.append(("sg_moves", [most, position]))
        for name in ("7g7f", "3c3d", "2h2b+", "P*5e"):
            found.append(("sg_play", [move_named(name), position]))
        found.append(("sg_play", [MOST, position]))
        for n in (0, 1, 4, MOST):
            found.append(("sg_count", [n, position]))
    found.append(("sg_count", [2, told(OPENING)]))
    for move in (0, 10408, 25360, 81, 11264, 26752, 32767, 32768, MOST):
        found.append(("sg_name", [move]))
    return found


def answer_of(name, arguments):
    return getattr(komadai.board, name)(*arguments)


def in_a_new_python(program, handed_in):
    done = subprocess.run([sys.executable, "-c", program], input=repr(handed_in), capture_output=True, text=True,
                          cwd=ROOT, check=True)
    assert done.stderr == "", done.stderr
    return done.stdout


# Everything that the package's files keep at their tops, but for functions.
def kept_at_the_tops():
    kept = {}
    for module_name, module in list(sys.modules.items()):
        if module_name.split(".")[0] == "komadai":
            for name, value in vars(module).items():
                if isinstance(value, (bool, int, str, list, tuple, dict, set, type(None))) and name[0:2] != "__":
                    kept[module_name, name] = value
    return kept


class Interface(unittest.TestCase):
    def test_names_and_arguments(self):
        for name, expected in ARGUMENTS.items():
            call = getattr(komadai.board, name)
            self.assertEqual(list(inspect.signature(call).parameters), expected)
            self.assertEqual(call.__module__, "komadai.board")

    def test_arguments_in_their_order_and_by_their_names(self):
        for name, arguments in calls():
            by_name = dict(zip(ARGUMENTS[name], arguments))
            self.assertEqual(getattr(komadai.board, name)(**by_name), answer_of(name, arguments), name)

    def test_no_other_calls(self):
        self.assertEqual(sorted(name for name in vars(komadai.board) if name.startswith("sg_")), sorted(ARGUMENTS))

    def test_each_call_answers_and_refuses_here(self):
        firsts = {}
        for name, arguments in calls():
            firsts.setdefault(name, set()).add(min(answer_of(name, arguments)[0], 0))
        self.assertEqual(firsts, {
            "sg_set": {0, -1, -2}, "sg_text": {0, -2}, "sg_moves": {0, -2, -3}, "sg_play": {0, -1, -2, -3},
            "sg_count": {0, -2, -3}, "sg_state": {0, -2}, "sg_name": {0, -1},
        })

    def test_whole_numbers_in_a_list(self):
        for name, arguments in calls():
            answer = answer_of(name, arguments)
            self.assertIs(type(answer), list, name)
            self.assertEqual([type(number) for number in answer], [int] * len(answer), name)

    def test_a_refusal_is_its_number_alone(self):
        for name, arguments in calls():
            answer = answer_of(name, arguments)
            if answer[0] < 0:
                self.assertEqual(len(answer), 1, name)
            self.assertTrue(all(number >= 0 for number in answer[1:]), name)


class Whole(unittest.TestCase):
    def test_what_is_handed_in_is_not_changed_not_for_a_while_either(self):
        for name, arguments in calls():
            guarded = [Unchangeable(part) if isinstance(part, list) else part for part in arguments]
            self.assertEqual(answer_of(name, guarded), answer_of(name, arguments), name)
            self.assertEqual(guarded, arguments, name)

    # Whoever changes what came out changes neither what went in nor what comes out the next time.
    def test_what_comes_out_is_new(self):
        for name, arguments in calls():
            before = copy.deepcopy(arguments)
            first = answer_of(name, arguments)
            kept = list(first)
            for place in range(len(first)):
                first[place] = 77
            first.append(77)
            self.assertEqual(arguments, before, name)
            self.assertEqual(answer_of(name, arguments), kept, name)

    def test_nothing_is_kept_at_the_tops_of_the_files(self):
        before = copy.deepcopy(kept_at_the_tops())
        self.assertIn(("komadai.pieces", "PIECE_NAMES"), before)
        for name, arguments in calls():
            answer_of(name, arguments)
        self.assertEqual(kept_at_the_tops(), before)

    def test_as_if_for_the_first_time(self):
        asked = calls()
        answers = [answer_of(name, arguments) for name, arguments in asked]
        self.assertEqual(in_a_new_python(ALONE, asked), f"{answers}\n")
        self.assertEqual(in_a_new_python(ALONE, asked[::-1]), f"{answers[::-1]}\n")
        for place in range(0, len(asked), 29):
            self.assertEqual(in_a_new_python(ALONE, asked[place:place + 1]), f"{answers[place:place + 1]}\n")

    def test_nothing_is_printed_and_nothing_read(self):
        forbidden = mock.Mock(side_effect=AssertionError("something is read"))
        printed = io.StringIO()
        asked = calls()
        with contextlib.redirect_stdout(printed), contextlib.redirect_stderr(printed):
            with mock.patch("builtins.open", forbidden), mock.patch("builtins.input", forbidden):
                for name, arguments in asked:
                    answer_of(name, arguments)
        self.assertEqual(printed.getvalue(), "")

    def test_nothing_is_imported(self):
        self.assertEqual(in_a_new_python(IMPORTED, calls()), "[]\n")

    def test_calls_are_not_nested_deep(self):
        depth = [0, 0]

        def follow(frame, event, argument):
            if event == "call":
                depth[0] += 1
                depth[1] = max(depth)
            elif event == "return":
                depth[0] -= 1

        asked = calls() + [("sg_count", [3, told(MATED[1])]), ("sg_count", [3, told(OPENING)])]
        sys.setprofile(follow)
        try:
            for name, arguments in asked:
                answer_of(name, arguments)
        finally:
            sys.setprofile(None)
        self.assertLess(depth[1], 50)


class Together(unittest.TestCase):
    # Each position is told and read again, each move is listed, named, found by its name, and done.
    def test_games_through_all_calls(self):
        for seed in range(60, 63):
            positions = game_played_on(seed, 120)
            for position, behind in zip(positions, positions[1:]):
                self.assertEqual(told(text_from(position)), position)
                moves = komadai.board.sg_moves(MOST, position)
                self.assertEqual(komadai.board.sg_count(1, position), moves[0:1])
                self.assertEqual(komadai.board.sg_state(position)[0] < 2, moves[0] > 0)
                names = ["".join(map(chr, komadai.board.sg_name(move)[1:])) for move in moves[1:]]
                played = [komadai.board.sg_play(move_named(name), position) for name in names]
                self.assertIn([0] + behind, played)


if __name__ == "__main__":
    unittest.main()
