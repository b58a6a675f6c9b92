"""All eight calls together: their names and arguments, each as if for the first time, nothing kept or printed."""

import contextlib
import copy
import importlib
import inspect
import io
import pkgutil
import random
import subprocess
import sys
import types
import unittest
from pathlib import Path

import windowlight
from tests.cartoons import light, one_pane, row, run_cartoon, same_row
from tests.drawn import Watched
from windowlight import desk

ROOT = Path(__file__).resolve().parent.parent
ARGUMENTS = {
    "pane": ["i", "cartoon", "glasses", "paintings", "daylight"],
    "all_of": ["cartoon", "glasses", "paintings", "daylight"],
    "near": ["glasses", "wanted"],
    "two": ["glasses", "wanted"],
    "alike": ["bound", "cartoon", "glasses", "paintings"],
    "through": ["one", "other"],
    "apart": ["one", "other"],
    "weigh": ["weights", "light"],
}
FULL = light(65535)
GLASSES = light(65535) + light(32768)
PAINTINGS = light(16384)
WRONG = light(65536)
SHORT = run_cartoon()[:-1]
RUN_BOUND = 32 * 24577 * 24577

# The document's run through every call, and every refusal of every call.
CASES = [
    ("pane", (2, run_cartoon(), GLASSES, PAINTINGS, light(32768)), same_row(4096)),
    ("pane", (0, run_cartoon(), GLASSES, PAINTINGS, WRONG), [-1]),
    ("pane", (0, run_cartoon(), FULL * 257, PAINTINGS, FULL), [-6]),
    ("pane", (0, SHORT, GLASSES, PAINTINGS, FULL), [-5, 3, 20]),
    ("pane", (3, run_cartoon(), GLASSES, PAINTINGS, FULL), [-2]),
    ("pane", (0, run_cartoon(), GLASSES, [], FULL), [-3, 2]),
    ("all_of", (run_cartoon(), GLASSES, PAINTINGS, FULL), same_row(26623)),
    ("all_of", (run_cartoon(), GLASSES, WRONG, FULL), [-1]),
    ("all_of", (run_cartoon(), GLASSES, FULL * 257, FULL), [-6]),
    ("all_of", ([], GLASSES, PAINTINGS, FULL), [-5, 1, 0]),
    ("all_of", (one_pane(2), GLASSES, PAINTINGS, FULL), [-3, 0]),
    ("near", (GLASSES, light(16000)), [0, 1, 8997306368]),
    ("near", (WRONG, light(16000)), [-1]),
    ("near", (FULL * 257, light(16000)), [-6]),
    ("near", ([], light(16000)), [-2]),
    ("two", (GLASSES, light(16000)), [0, 1, 1, 4718592]),
    ("two", (GLASSES, WRONG), [-1]),
    ("two", (FULL * 257, light(16000)), [-6]),
    ("two", ([], light(16000)), [-2]),
    ("alike", (RUN_BOUND, run_cartoon(), GLASSES, PAINTINGS), row(1, 2)),
    ("alike", (0, run_cartoon(), GLASSES, PAINTINGS), row()),
    ("alike", (RUN_BOUND, run_cartoon(), WRONG, PAINTINGS), [-1]),
    ("alike", (RUN_BOUND, run_cartoon(), FULL * 257, PAINTINGS), [-6]),
    ("alike", (RUN_BOUND, SHORT, GLASSES, PAINTINGS), [-5, 3, 20]),
    ("alike", (RUN_BOUND, run_cartoon(), FULL, PAINTINGS), [-3, 1]),
    ("through", (light(32768), light(16384)), same_row(8192)),
    ("through", (light(32768), WRONG), [-1]),
    ("apart", (light(32768), light(8192)), [0, 32 * 24576 * 24576]),
    ("apart", (WRONG, light(8192)), [-1]),
    ("weigh", (light(-3), light(8192)), [0, -786432]),
    ("weigh", (light(32768), light(8192)), [-1]),
]


def handed(told):
    return [list(part) if isinstance(part, list) else part for part in told]


def ask(name, told):
    return getattr(desk, name)(*told)


def modules():
    yield windowlight
    for found in pkgutil.iter_modules(windowlight.__path__):
        yield importlib.import_module("windowlight." + found.name)


def kept_values():
    """All that the package's files and functions hold from one call to the next."""
    values = {}
    for module in modules():
        for name, value in vars(module).items():
            if isinstance(value, types.FunctionType):
                values[(module.__name__, name)] = (dict(vars(value)), value.__defaults__)
            elif isinstance(value, type):
                values[(module.__name__, name)] = sorted(vars(value))
            elif not name.startswith("__") and not isinstance(value, types.ModuleType):
                values[(module.__name__, name)] = value
    return copy.deepcopy(values)


class TestInterface(unittest.TestCase):
    def test_arguments(self):
        for name, told in ARGUMENTS.items():
            parameters = inspect.signature(getattr(desk, name)).parameters
            self.assertEqual(list(parameters), told, name)
            for parameter in parameters.values():
                self.assertIs(parameter.default, parameter.empty, name)

    def test_by_names(self):
        for name, told, answer in CASES:
            self.assertEqual(getattr(desk, name)(**dict(zip(ARGUMENTS[name], told, strict=True))), answer, name)

    def test_every_call_has_cases(self):
        self.assertEqual({name for name, told, answer in CASES}, set(ARGUMENTS))

    def test_kinds(self):
        for name, told, answer in CASES:
            found = ask(name, told)
            self.assertIs(type(found), list)
            self.assertEqual({type(number) for number in found}, {int})
            self.assertEqual(found, answer, name)


class TestAsIfForTheFirstTime(unittest.TestCase):
    def test_in_any_order(self):
        for seed in range(20):
            order = CASES * 2
            random.Random(seed).shuffle(order)
            for name, told, answer in order:
                self.assertEqual(ask(name, handed(told)), answer, name)

    def test_the_first_time_indeed(self):
        for name, arguments in ARGUMENTS.items():
            told, answer = next((told, answer) for own, told, answer in CASES if own == name)
            text = f"from windowlight import desk\nprint(desk.{name}(*{handed(told)!r}))"
            done = subprocess.run([sys.executable, "-B", "-c", text], cwd=ROOT, capture_output=True, text=True)
            self.assertEqual((done.stdout, done.stderr), (f"{answer}\n", ""), name)

    def test_an_answer_that_the_caller_changes(self):
        for name, told, answer in CASES:
            parts = handed(told)
            first = ask(name, parts)
            first[:] = [-7] * 40
            self.assertEqual(parts, handed(told), name)
            self.assertEqual(ask(name, parts), answer, name)

    def test_lists_that_the_caller_changes_afterwards(self):
        for name, told, answer in CASES:
            parts = handed(told)
            found = ask(name, parts)
            for part in parts:
                if isinstance(part, list):
                    part[:] = [9] * len(part)
            self.assertEqual(found, answer, name)
            ask(name, parts)
            self.assertEqual(ask(name, handed(told)), answer, name)

    def test_nothing_is_kept(self):
        before = kept_values()
        self.assertGreater(len(before), 40)
        for name, told, answer in CASES:
            ask(name, told)
        self.assertEqual(kept_values(), before)


class TestHandedIn(unittest.TestCase):
    def test_it_stays(self):
        for name, told, answer in CASES:
            parts = handed(told)
            ask(name, parts)
            self.assertEqual(parts, list(told), name)

    def test_it_is_not_changed_for_a_while_either(self):
        for name, told, answer in CASES:
            parts = [Watched(part) if isinstance(part, list) else part for part in told]
            self.assertEqual(ask(name, parts), answer, name)

    def test_nothing_is_printed_or_read(self):
        printed = io.StringIO()
        source = io.StringIO("unread")
        real = sys.stdin
        sys.stdin = source
        try:
            with contextlib.redirect_stdout(printed), contextlib.redirect_stderr(printed):
                for name, told, answer in CASES:
                    ask(name, told)
        finally:
            sys.stdin = real
        self.assertEqual(printed.getvalue(), "")
        self.assertEqual(source.read(), "unread")


if __name__ == "__main__":
    unittest.main()
