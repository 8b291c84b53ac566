"""The calls as they are told in the interface, and that none keeps anything for the next."""

import contextlib
import copy
import inspect
import io
import random
import subprocess
import sys
import unittest

from helper import as_bytes
from wholesays import sentences

GREATEST = 18446744073709551615

# Each call, what is handed in, and what is answered.
CALLS = (
    ("is_true", ("AxEy([x=2y]|[x=2y+1])",), [1]),
    ("is_true", ("ExAy[y<x]",), [0]),
    ("is_true", ("[x=0]",), [-3]),
    ("is_true", ("[x=0",), [-1]),
    ("is_true", ("!" * 65,), [-2]),
    ("least", ("([50<x]&Ey[x=3y])",), [1, 51]),
    ("least", ("[x=0]",), [1, 0]),
    ("least", ("[2x=7]",), [0]),
    ("least", ("[x=y]",), [-3]),
    ("least", ("[x=0",), [-1]),
    ("least", ("!" * 65,), [-2]),
    ("holds", ("Ez[x+z=y]", [7, 9, 0]), [1]),
    ("holds", ("Ez[x+z=y]", [9, 7, 0]), [0]),
    ("holds", ("[x<y]", [GREATEST - 1, GREATEST, 0]), [1]),
    ("holds", ("[x=0]", [0, 5, 5]), [1]),
    ("holds", ("[x=0", [0, 5, 5]), [-1]),
    ("holds", ("!" * 65, [0, 5, 5]), [-2]),
    ("same", ("Ey[x=2y]", "[x%2=0]"), [1]),
    ("same", ("[x<y]", "[x<y+1]"), [0]),
    ("same", ("[x=0]", "[x=0]"), [1]),
    ("same", ("[x=0", "[x=0]"), [-1]),
    ("same", ("[x=0", "!" * 65), [-2]),
)


def handed_in(values):
    return [as_bytes(value) if isinstance(value, str) else list(value) for value in values]


def answer_of(name, values):
    return getattr(sentences, name)(*handed_in(values))


def kept():
    """What the module holds."""
    return {name: value for name, value in vars(sentences).items() if not name.startswith("__")}


class Interface(unittest.TestCase):
    def test_names_and_arguments(self):
        told = {"is_true": ["text"], "least": ["text"], "holds": ["text", "v"], "same": ["a", "b"]}
        for name, names in told.items():
            self.assertEqual(list(inspect.signature(getattr(sentences, name)).parameters), names)

    def test_by_name(self):
        self.assertEqual(sentences.is_true(text=as_bytes("[0=0]")), [1])
        self.assertEqual(sentences.least(text=as_bytes("[x=4]")), [1, 4])
        self.assertEqual(sentences.holds(v=[1, 2, 3], text=as_bytes("[y=2]")), [1])
        self.assertEqual(sentences.same(b=as_bytes("[x=4"), a=as_bytes("[y=2]")), [-1])

    def test_lists_of_whole_numbers(self):
        for name, values, answer in CALLS:
            got = answer_of(name, values)
            self.assertEqual(got, answer, (name, values))
            self.assertIs(type(got), list)
            for number in got:
                self.assertIs(type(number), int)

    def test_prints_nothing(self):
        said = io.StringIO()
        with contextlib.redirect_stdout(said), contextlib.redirect_stderr(said):
            for name, values, _ in CALLS:
                answer_of(name, values)
        self.assertEqual(said.getvalue(), "")


class AsForTheFirstTime(unittest.TestCase):
    def test_in_any_order(self):
        chance = random.Random(61)
        for _ in range(40):
            for name, values, answer in chance.sample(CALLS, len(CALLS)):
                self.assertEqual(answer_of(name, values), answer, (name, values))

    def test_behind_every_other_call(self):
        for before in CALLS:
            for name, values, answer in CALLS:
                answer_of(before[0], before[1])
                self.assertEqual(answer_of(name, values), answer, (before, name, values))

    def test_nothing_is_kept(self):
        before = copy.deepcopy(kept())
        for name, values, _ in CALLS:
            answer_of(name, values)
        self.assertEqual(kept(), before)

    def test_lists_that_are_handed_in_again(self):
        handed = [(name, handed_in(values), answer) for name, values, answer in CALLS]
        for _ in range(3):
            for name, values, answer in handed:
                self.assertEqual(getattr(sentences, name)(*values), answer, (name, values))
        self.assertEqual([values for _, values, _ in handed], [handed_in(values) for _, values, _ in CALLS])

    def test_in_a_new_python(self):
        written = "; ".join([f"print(sentences.{name}(*{handed_in(values)!r}))" for name, values, _ in reversed(CALLS)])
        said = subprocess.run([sys.executable, "-c", f"from wholesays import sentences; {written}"], check=True,
                              capture_output=True, text=True, cwd=sentences.__file__.rsplit("/", 2)[0]).stdout
        self.assertEqual(said.splitlines(), [str(answer) for _, _, answer in reversed(CALLS)])


if __name__ == "__main__":
    unittest.main()
