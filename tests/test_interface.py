import ast
import contextlib
import io
import pathlib
import random
import unittest

from helper import MOST_ROOM, MOST_WHOLE, START, TURN, down, end, free, job, joined, machine, where
from jobyard.yard import UnknownCall, answers

README = pathlib.Path(__file__).resolve().parent.parent / "README.md"

MANY = joined(START, machine(1), machine(1), machine(64), job(1), job(1), job(128), job(2, copies=0),
              down(1), down(1), START, machine(1), job(1))
PLACED = joined(START, machine(1), machine(2), job(9, copies=3), job(3, copies=4), TURN, TURN, where(9), where(3),
                free(1), free(2), job(4, (4, 3, 2, 1), copies=2, rank=1), TURN, TURN, where(9), where(4), free(1),
                free(3), where(2), end(4), end(4), free(1))
TOLD = [2, 0, 0, 2, 0, 1, 2, 0, -17, 2, 0, -2, 2, 0, 1, 2, 0, -17, 2, 0, -2, 2, 0, -22,
        2, 0, 0, 2, 0, -2, 2, 0, 0, 2, 0, 1, 2, 0, 1]
PLACED_TOLD = [2, 0, 0, 2, 0, 1, 2, 0, 2, 2, 0, 1, 2, 0, 2, 3, 1, 9, 0, 3, 1, 3, 0, 5, 2, 3, 1, 1, 1,
               6, 2, 4, 1, 2, 2, 2, 5, 3, 0, 0, 0, 0, 5, 3, 1, 1, 1, 1, 2, 0, 3, 5, 1, 4, 2, 3, 9,
               2, 0, -11, 2, 0, -11, 4, 2, 2, 1, 2, 5, 3, 0, 1, 2, 3, 2, 0, -2, 2, 0, -2, 2, 0, 2,
               2, 0, -2, 5, 3, 4, 4, 4, 4]


class NeverChanged(list):
    """A list that can't be changed, so that a change for a while is seen too."""

    def refuse(self, *args, **kwargs):
        raise AssertionError("what was handed in was changed")

    append = clear = extend = insert = pop = remove = reverse = sort = refuse
    __setitem__ = __delitem__ = __iadd__ = __imul__ = refuse


def random_calls(source, how_many):
    """Calls with numbers about the edges, and their answers by a plain reckoning of the promises."""
    machines, jobs, calls, told = [], [], list(START), [2, 0, 0]
    for _ in range(how_many):
        kind = source.choice((0, 1, 1, 1, 2, 3, 3, 3))
        n = source.choice((0, 1, 2, 62, 63, 64, 126, 127, 128))
        four = [source.choice((0, 0, 1, MOST_ROOM, MOST_ROOM + source.choice((0, 0, 0, 1)))) for _ in range(4)]
        if kind == 0:
            machines, jobs = [], []
            calls, answer = calls + START, 0
        elif kind == 1:
            zone, none = source.choice((0, 7, 7, 8)), source.choice((0, 0, 0, 1))
            right = all(x <= MOST_ROOM for x in four) and zone < 8 and none == 0
            calls, answer = calls + machine(n, four, 65535, zone, none), added(machines, n, 64, right)
        elif kind == 2:
            calls, answer = calls + down(n), 0 if n in machines else -2
            machines = [i for i in machines if i != n]
        else:
            copies, apart = source.choice((0, 1, 16, 16, 17)), source.choice((0, 1, 1, 1, 2))
            spread, rank = source.choice((0, 1, 16, 17)), source.choice((0, 7, 7, 8))
            right = all(x <= MOST_ROOM for x in four) and four != [0, 0, 0, 0] and copies in range(1, 17)
            right = right and apart in (0, 1) and spread in range(17) and rank in range(8)
            calls, answer = calls + job(n, four, 3, 4, copies, apart, spread, rank), added(jobs, n, 128, right)
        told = told + [2, 0, answer]
    return calls, told


def added(there, n, limit, right):
    if n >= limit:
        return -2
    if n in there:
        return -17
    if not right:
        return -22
    there.append(n)
    return len(there)


class InterfaceTest(unittest.TestCase):
    def test_form_and_count_of_each_answer(self):
        self.assertEqual(answers(MANY), TOLD)

    def test_form_and_count_where_jobs_are_placed(self):
        self.assertEqual(answers(PLACED), PLACED_TOLD)

    def test_every_refusal_has_form_0(self):
        self.assertEqual(answers(joined(START, TURN, end(0), where(0), free(0), down(0), job(0), where(0))),
                         [2, 0, 0, 2, 0, -11, 2, 0, -2, 2, 0, -2, 2, 0, -2, 2, 0, -2, 2, 0, 1, 2, 0, -11])

    def test_the_greatest_numbers_that_can_be_handed_in(self):
        most = joined(START, down(MOST_WHOLE), end(MOST_WHOLE), where(MOST_WHOLE), free(MOST_WHOLE))
        self.assertEqual(answers(most), [2, 0, 0] + [2, 0, -2] * 4)

    def test_kinds(self):
        told = answers(MANY + PLACED)
        self.assertIs(type(told), list)
        self.assertEqual({type(number) for number in told}, {int})

    def test_what_is_handed_in_is_not_changed(self):
        for handed_in in (MANY, PLACED):
            calls = list(handed_in)
            answers(calls)
            self.assertEqual(calls, handed_in)

    def test_what_is_handed_in_is_not_changed_for_a_while_either(self):
        self.assertEqual(answers(NeverChanged(MANY)), TOLD)
        self.assertEqual(answers(NeverChanged(PLACED)), PLACED_TOLD)

    def test_asked_twice_is_answered_alike(self):
        for handed_in, told in ((MANY, TOLD), (PLACED, PLACED_TOLD)):
            calls = list(handed_in)
            first = answers(calls)
            first.append(5)
            self.assertEqual(answers(calls), told)

    def test_nothing_is_left_behind(self):
        answers(joined(START, *[machine(i) for i in range(64)], *[job(j) for j in range(128)]))
        self.assertEqual(answers(joined(START, machine(0), job(0), down(1))), [2, 0, 0, 2, 0, 1, 2, 0, 1, 2, 0, -2])
        self.assertEqual(answers(MANY), TOLD)
        answers(PLACED[:-6])
        self.assertEqual(answers(PLACED), PLACED_TOLD)
        self.assertEqual(answers(joined(START, TURN, where(9), free(1))), [2, 0, 0, 2, 0, -11, 2, 0, -2, 2, 0, -2])

    # Where a long list is wrong, assertEqual would take minutes to show how: assertTrue doesn't.

    def test_600_calls(self):
        told = answers(joined(START, *[job(128)] * 598, job(0)))
        self.assertTrue(told == [2, 0, 0] + [2, 0, -2] * 598 + [2, 0, 1])

    def test_64_machines_and_128_jobs_in_600_calls(self):
        machines = [machine(i, (8, 8, 8, 8), zone=i % 8) for i in range(64)]
        little = [job(j, (4, 4, 4, 4), copies=1 + j % 2) for j in range(100)]
        great = [job(j, (8, 8, 8, 8), copies=2, apart=1, spread=1, rank=1 + j % 7) for j in range(100, 128)]
        turns = [TURN] * (600 - 1 - 64 - 128)
        told = answers(joined(START, *machines, *little, *turns[:100], *great, *turns[100:]))
        self.assertTrue(told[-3:] == [2, 0, -11])
        self.assertTrue(told.count(-11) > 100)

    def test_16000_numbers(self):
        self.assertTrue(answers([0] * 16000) == [2, 0, 0] * 16000)

    def test_many_calls_in_any_order(self):
        for seed in range(200):
            calls, told = random_calls(random.Random(seed), 150)
            self.assertTrue(answers(calls) == told, seed)

    def test_it_prints_nothing(self):
        out, err = io.StringIO(), io.StringIO()
        with contextlib.redirect_stdout(out), contextlib.redirect_stderr(err):
            answers(MANY)
            answers(PLACED)
        self.assertEqual((out.getvalue(), err.getvalue()), ("", ""))

    def test_what_the_readme_shows(self):
        shown = README.read_text(encoding="utf-8").split("```python\n")[1].split("```")[0]
        calls, told = shown.split("answers(")[1].split(")\n# ")
        self.assertEqual(answers(ast.literal_eval(calls)), ast.literal_eval(told))

    def test_a_number_that_no_call_has(self):
        for call in (-1, 8):
            with self.assertRaises(UnknownCall):
                answers([0, call, 0])


if __name__ == "__main__":
    unittest.main()
