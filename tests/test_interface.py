"""The calls as they are handed things: names, arguments and their order; nothing is printed or kept."""

import contextlib
import inspect
import io
import subprocess
import sys
import unittest
from pathlib import Path

import rootrows.numbers
from samples import BIG, Fixed

TOP = Path(__file__).resolve().parent.parent

CALLS = {
    "open_of": "field", "row": "field a", "plus": "field a b", "minus": "field a b", "times": "field a b",
    "over": "field a b", "power": "k field a", "value": "field rows x", "read": "field text", "sign": "k field a",
    "floor": "k field a", "digits": "k n field a", "parts": "k n field a", "trace": "field a", "norm": "field a",
    "least": "field a", "whole": "field a", "span": "field rows", "told": "field rows a",
}

# What is handed in under each name; the second and third lead to refusals in all calls.
HANDED = [
    {"field": [-2, 0], "a": [6, -4, 8], "b": [3, 5, 7], "x": [1, 1, 2], "rows": [1, 0, 2, 1, 1, 3], "k": 1, "n": 7,
     "text": list(b"(1 + x)^3/7 - -x")},
    {"field": [-1, 0], "a": [6, -4, 8], "b": [3, 5, 7], "x": [1, 1, 2], "rows": [], "k": 1, "n": 7, "text": [120]},
    {"field": [], "a": [], "b": [], "x": [], "rows": [], "k": 0, "n": 0, "text": []},
    {"field": [1, 0, -10, 0], "a": [BIG, -BIG, 1, 0, BIG - 1], "b": [0, 0, 0, 1, 1], "x": [0, 0, 0, 0, 1],
     "rows": [1, 2, 3, 4, 5], "k": 3, "n": 20, "text": list(b"1/x + ")},
    {"field": [1, -3, 0], "a": [2, 4, 6, 8], "b": [0, 0, 0, 3], "x": [1, 0, 0, 1], "rows": [0, 0, 0, 1], "k": 2, "n": 3,
     "text": list(b"x/(x - x)")},
    {"field": [0], "a": [-6, 4], "b": [1, 1], "x": [2, 1], "rows": [3, 1], "k": 0, "n": 2, "text": list(b"x + 3")},
]


def call(name, handed):
    return getattr(rootrows.numbers, name)(*[handed[word] for word in CALLS[name].split()])


class InterfaceTest(unittest.TestCase):

    def test_names_and_arguments(self):
        for name, words in CALLS.items():
            found = inspect.signature(getattr(rootrows.numbers, name)).parameters.values()
            self.assertEqual([parameter.name for parameter in found], words.split(), name)
            for parameter in found:
                self.assertIs(parameter.default, inspect.Parameter.empty)
                self.assertIs(parameter.kind, inspect.Parameter.POSITIONAL_OR_KEYWORD)

    def test_arguments_by_name(self):
        for name, words in CALLS.items():
            handed = HANDED[0]
            by_name = {word: handed[word] for word in words.split()}
            self.assertEqual(getattr(rootrows.numbers, name)(**by_name), call(name, handed))

    def test_answers_are_lists_of_whole_numbers(self):
        for handed in HANDED:
            for name in CALLS:
                answer = call(name, handed)
                self.assertIs(type(answer), list)
                self.assertGreater(len(answer), 0)
                self.assertTrue(all(type(n) is int for n in answer))
                if answer[0] != 0:
                    self.assertIn(answer[0], (-1, -2, -3, -4, -5, -6, -9))
                    self.assertEqual(len(answer), 2 if answer[0] == -6 else 1)

    def test_nothing_is_kept(self):
        # Whatever was called before, and however often, the answer is the same, and it is a list of its own.
        first = {(k, name): call(name, handed) for k, handed in enumerate(HANDED) for name in CALLS}
        kept = {key: list(answer) for key, answer in first.items()}
        for answer in first.values():
            answer.clear()
        for name in reversed(CALLS):
            for k in reversed(range(len(HANDED))):
                for time in range(2):
                    self.assertEqual(call(name, HANDED[k]), kept[k, name], (k, name))

    def test_what_is_handed_in_stays(self):
        for handed in HANDED:
            fixed = {word: Fixed(given) if isinstance(given, list) else given for word, given in handed.items()}
            for name in CALLS:
                self.assertEqual(call(name, fixed), call(name, handed))
                self.assertEqual(fixed, handed)

    def test_one_list_as_all_of_them(self):
        for numbers in ([3, 1], [5], [1, 2, 3], [2, 0, 0, 1], [1, 1, 1, 1, 1], []):
            one = Fixed(numbers)
            for name, words in CALLS.items():
                handed = [0 if word in "kn" else one for word in words.split()]
                apart = [0 if word in "kn" else list(numbers) for word in words.split()]
                self.assertEqual(getattr(rootrows.numbers, name)(*handed), getattr(rootrows.numbers, name)(*apart))
                self.assertEqual(list(one), numbers)

    def test_nothing_is_printed(self):
        with contextlib.redirect_stdout(io.StringIO()) as out, contextlib.redirect_stderr(io.StringIO()) as err:
            for handed in HANDED:
                for name in CALLS:
                    call(name, handed)
        self.assertEqual((out.getvalue(), err.getvalue()), ("", ""))

    def test_nothing_else_is_imported(self):
        code = ("import sys\nbefore = set(sys.modules)\nimport rootrows.numbers\n"
                "print(sorted(name for name in set(sys.modules) - before if name.split('.')[0] != 'rootrows'))")
        found = subprocess.run([sys.executable, "-c", code], cwd=TOP, capture_output=True, text=True, check=True)
        self.assertEqual((found.stdout, found.stderr), ("[]\n", ""))


if __name__ == "__main__":
    unittest.main()
