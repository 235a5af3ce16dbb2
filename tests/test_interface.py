"""What the interface says over the whole program, for all five calls."""

import contextlib
import inspect
import io
import pathlib
import subprocess
import sys
import unittest
import unittest.mock

from forcednodes import forcing
from helper import Unchanging, all_joined, bits, path, ring

PARAMETERS = {
    "forced": ["s", "near"],
    "told": ["s", "near"],
    "rest": ["s", "near"],
    "fort": ["f", "near"],
    "fewest": ["near"],
}
# How many numbers an answer has that isn't a refusal, where near has n.
LENGTHS = {
    "forced": lambda n: 3,
    "told": lambda n: 2 * n + 1,
    "rest": lambda n: 2,
    "fort": lambda n: 1,
    "fewest": lambda n: 2,
}
REFUSALS = {
    "forced": {-22},
    "told": {-22},
    "rest": {-22, -61},
    "fort": {-22},
    "fewest": {-22, -28},
}
SETS = (0, 1, bits(0, 1), bits(0, 2), bits(1, 3), 15, 4095, 65535, 65536, 4294967295)
LISTS = (
    [],
    [0],
    [1],
    [2],
    [65535],
    path(4),
    ring(4),
    [2, 0, 0, 0],
    path(12),
    [0] * 12,
    path(13),
    ring(16),
    all_joined(16),
    [0] * 16,
    [65535] * 16,
    [0] * 17,
    [65535] * 30,
)


def every_call():
    for name, parameters in PARAMETERS.items():
        for near in LISTS:
            for number in SETS if len(parameters) == 2 else (None,):
                yield name, number, near


def answer_of(name, number, near):
    function = getattr(forcing, name)
    return function(near) if number is None else function(number, near)


def greatest_depth(name, number, near):
    depths = [0]

    def watch(frame, event, what):
        if event == "call":
            depths.append(depths[-1] + 1)
        elif event == "return" and len(depths) > 1:
            depths.append(depths[-1] - 1)

    sys.setprofile(watch)
    try:
        answer_of(name, number, near)
    finally:
        sys.setprofile(None)
    return max(depths)


class Heard:
    """What Python reports of files, imports and their like, while somebody listens. A hook can't be taken away."""

    events = None

    @classmethod
    def hear(cls, event, what):
        if cls.events is not None:
            cls.events.append(event)


sys.addaudithook(Heard.hear)


class Interface(unittest.TestCase):
    def test_names_and_arguments(self):
        for name, expected in PARAMETERS.items():
            parameters = inspect.signature(getattr(forcing, name)).parameters
            self.assertEqual(list(parameters), expected)
            for parameter in parameters.values():
                self.assertEqual(parameter.kind, inspect.Parameter.POSITIONAL_OR_KEYWORD)
                self.assertIs(parameter.default, inspect.Parameter.empty)

    def test_a_list_of_whole_numbers(self):
        for name, number, near in every_call():
            answer = answer_of(name, number, near)
            self.assertIs(type(answer), list)
            self.assertEqual([type(each) for each in answer], [int] * len(answer), (name, number, near))

    def test_a_refusal_is_its_number_alone(self):
        seen = {name: set() for name in PARAMETERS}
        for name, number, near in every_call():
            answer = answer_of(name, number, near)
            if answer[0] < 0:
                self.assertEqual(len(answer), 1, (name, number, near))
                seen[name].add(answer[0])
            else:
                self.assertEqual(len(answer), LENGTHS[name](len(near)), (name, number, near))
                self.assertTrue(all(each >= 0 for each in answer))
        self.assertEqual(seen, REFUSALS)

    def test_what_is_handed_in_is_not_changed(self):
        for name, number, near in every_call():
            watched = Unchanging(near)
            answer = answer_of(name, number, watched)
            self.assertEqual(list(watched), near)
            self.assertIsNot(answer, watched)

    def test_nothing_is_kept_from_one_time_to_the_next(self):
        calls = list(every_call())
        first = [answer_of(*call) for call in calls]
        for call, answer in reversed(list(zip(calls, first))):
            again = answer_of(*call)
            self.assertEqual(again, answer, call)
            again.append(99)
            self.assertEqual(answer_of(*call), answer, call)

    def test_nothing_is_kept_in_the_module(self):
        ahead = self.kept()
        for call in every_call():
            answer_of(*call)
        self.assertEqual(self.kept(), ahead)

    def kept(self):
        of_functions = {
            name: (dict(vars(value)), repr(value.__defaults__), value.__closure__)
            for name, value in vars(forcing).items()
            if inspect.isfunction(value)
        }
        values = {name: repr(value) for name, value in vars(forcing).items() if not name.startswith("__")}
        return of_functions, values

    def test_it_prints_and_reads_and_imports_nothing(self):
        out, err, given = io.StringIO(), io.StringIO(), io.StringIO("not to be read")
        with contextlib.redirect_stdout(out), contextlib.redirect_stderr(err):
            with unittest.mock.patch("sys.stdin", given):
                heard = self.heard_over_every_call()
        self.assertEqual(out.getvalue() + err.getvalue(), "")
        self.assertEqual(given.tell(), 0)
        self.assertEqual([event for event in heard if event.split(".")[0] in ("open", "import", "os", "socket")], [])

    def heard_over_every_call(self):
        Heard.events = []
        try:
            for call in every_call():
                answer_of(*call)
            return Heard.events
        finally:
            Heard.events = None

    def test_bringing_it_in_prints_nothing_and_brings_in_nothing_else(self):
        code = (
            "import sys\n"
            "ahead = set(sys.modules)\n"
            "import forcednodes.forcing\n"
            "behind = sorted(set(sys.modules) - ahead)\n"
            "print(behind)\n"
        )
        ran = subprocess.run(
            [sys.executable, "-B", "-c", code],
            cwd=pathlib.Path(forcing.__file__).parent.parent,
            stdin=subprocess.DEVNULL,
            capture_output=True,
            text=True,
        )
        self.assertEqual((ran.stdout, ran.stderr), ("['forcednodes', 'forcednodes.forcing']\n", ""))

    def test_what_is_long_is_gone_through_by_loops(self):
        for name, number, near in every_call():
            self.assertLess(greatest_depth(name, number, near), 12, (name, number, near))


if __name__ == "__main__":
    unittest.main()
