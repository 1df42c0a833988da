"""The names, arguments and kinds that the interface tells."""

import inspect
import unittest

import komadai.board


class Interface(unittest.TestCase):
    def test_names_and_arguments(self):
        arguments = {
            "sg_set": ["text"], "sg_text": ["position"], "sg_moves": ["most", "position"], "sg_play": ["move", "position"],
            "sg_count": ["n", "position"], "sg_state": ["position"],
        }
        for name, expected in arguments.items():
            call = getattr(komadai.board, name)
            self.assertEqual(list(inspect.signature(call).parameters), expected)


if __name__ == "__main__":
    unittest.main()
