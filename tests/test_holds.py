"""What holds over the whole program, after each call of longer lists that are drawn from fixed sequences."""

import itertools
import random
import unittest

from helper import (NONE_PLACED, START, TURN, alone, down, end, free, job, joined, machine, on, placed, room, split,
                    where)
from jobyard.yard import answers

MACHINES = range(4)
JOBS = range(9)
KINDS = range(4)
LISTS = 120
# With one jo_where for each job and one jo_free for each machine behind it, each drawn call stands for 14.
DRAWN = (600 - 1) // (1 + len(MACHINES) + len(JOBS))
MOST_TURNS = 100


class Record:
    """A machine's or a job's numbers under their names, and for a job where its copies are."""

    def __init__(self, **numbers):
        self.__dict__.update(numbers)


class Plain:
    """The yard by the document's own words, without any regard to how long it takes."""

    def __init__(self):
        self.machines, self.jobs = {}, {}

    def ask(self, call):
        calls = (self.start, self.machine, self.down, self.job, self.end, self.turn, self.where, self.free)
        return calls[call[0]](*call[1:])

    def start(self):
        self.machines, self.jobs = {}, {}
        return alone(0)

    def machine(self, i, a, b, c, d, labels, zone, none):
        if i in self.machines:
            return alone(-17)
        self.machines[i] = Record(has=(a, b, c, d), labels=labels, zone=zone)
        return alone(len(self.machines))

    def down(self, i):
        if i not in self.machines:
            return alone(-2)
        hit = [q for q in self.jobs.values() if i in q.places]
        for q in hit:
            q.places = []
        del self.machines[i]
        return alone(len(hit))

    def job(self, j, a, b, c, d, needs, never, copies, apart, spread, rank):
        if j in self.jobs:
            return alone(-17)
        self.jobs[j] = Record(wants=(a, b, c, d), needs=needs, never=never, copies=copies, apart=apart, spread=spread,
                              rank=rank, places=[])
        return alone(len(self.jobs))

    def end(self, j):
        if j not in self.jobs:
            return alone(-2)
        del self.jobs[j]
        return alone(len(self.jobs))

    def where(self, j):
        if j not in self.jobs:
            return alone(-2)
        return on(*self.jobs[j].places) if self.jobs[j].places else alone(-11)

    def free(self, i):
        if i not in self.machines:
            return alone(-2)
        used = [sum(q.wants[k] * q.places.count(i) for q in self.jobs.values()) for k in KINDS]
        return room(*[self.machines[i].has[k] - used[k] for k in KINDS])

    def by_rank(self, numbers):
        came = list(self.jobs)
        return sorted(numbers, key=lambda j: (-self.jobs[j].rank, came.index(j)))

    def waiting(self):
        return self.by_rank(j for j, q in self.jobs.items() if not q.places)

    def lesser(self, j):
        return self.by_rank(x for x, q in self.jobs.items() if q.places and q.rank < self.jobs[j].rank)

    def turn(self):
        for j in self.waiting():
            out = self.lesser(j)
            if self.found(j, out) is None:
                continue
            for other in list(out):
                if self.found(j, [x for x in out if x != other]) is not None:
                    out.remove(other)
            places = self.found(j, out)
            for other in out:
                self.jobs[other].places = []
            self.jobs[j].places = places
            return placed(j, *sorted(out))
        return NONE_PLACED

    def found(self, j, out):
        """Where fi_place puts the copies of job j, these being out: copy by copy, as long as all is right."""
        places = []
        for i in sorted(self.machines):
            while len(places) < self.jobs[j].copies and self.right_with(j, places + [i], out):
                places.append(i)
        return places if len(places) == self.jobs[j].copies else None

    def right_with(self, j, places, out):
        on_them = {x: [] if x in out else q.places for x, q in self.jobs.items()}
        on_them[j] = places
        return self.right(on_them)

    def right(self, on_them):
        for i, m in self.machines.items():
            for k in KINDS:
                if sum(self.jobs[x].wants[k] * places.count(i) for x, places in on_them.items()) > m.has[k]:
                    return False
        return all(self.right_by_itself(self.jobs[x], places) for x, places in on_them.items())

    def right_by_itself(self, q, places):
        under = [self.machines[i] for i in places]
        zones = [m.zone for m in under]
        return (all(m.labels & q.needs == q.needs and m.labels & q.never == 0 for m in under)
                and (q.apart == 0 or len(set(places)) == len(places))
                and (q.spread == 0 or all(zones.count(zone) <= q.spread for zone in zones)))

    def any_way(self, j, out):
        """Whether all copies of job j can be put anyhow, these being out: every way is tried."""
        ways = itertools.combinations_with_replacement(sorted(self.machines), self.jobs[j].copies)
        return any(self.right_with(j, list(way), out) for way in ways)


def drawn_machine(source, i):
    has = [source.randint(3, 8) for _ in KINDS]
    return machine(i, has, source.choice((0, 1, 1, 1, 2, 3)), source.choice((0, 0, 1, 2)))


def drawn_job(source, most_rank):
    rank = source.randint(0, most_rank)
    # The greater ranks want more, so that they put out several.
    most = 2 if rank < 2 else 6
    wants = [source.randint(0, most) for _ in KINDS]
    wants[source.randrange(4)] = source.randint(1, most)
    copies = source.randint(1, 4) if rank < 2 else source.randint(1, 2)
    return job(source.choice(JOBS), wants, source.choice((0, 0, 0, 1)), source.choice((0, 0, 0, 2)), copies,
               source.choice((0, 0, 1)), source.choice((0, 0, 0, 1, 2)), rank)


def drawn_call(source, most_rank):
    kind = source.choice([0] + [1] * 6 + [2] * 4 + [3] * 45 + [4] * 15 + [5] * 45)
    if kind == 0:
        return START
    if kind == 1:
        return drawn_machine(source, source.choice(MACHINES))
    if kind == 2:
        return down(source.choice(MACHINES))
    if kind == 3:
        return drawn_job(source, most_rank)
    if kind == 4:
        return end(source.choice(JOBS))
    return TURN


def drawn_calls(source):
    """All machines come first; and of the jobs, those of greater rank later, when there is somebody to put out."""
    machines = [drawn_machine(source, i) for i in source.sample(MACHINES, len(MACHINES))]
    left = DRAWN - len(machines)
    return machines + [drawn_call(source, 1 + 7 * number // left) for number in range(left)]


ALL_ASKED = [where(j) for j in JOBS] + [free(i) for i in MACHINES]


def with_all_asked(calls):
    return joined(START, *[joined(call, *ALL_ASKED) for call in calls])


def steps_of(calls):
    """Of each call what it answers, then where all jobs are and what is free on all machines, told by the program."""
    found = split(answers(with_all_asked(calls)))[1:]
    size = 1 + len(ALL_ASKED)
    for start in range(0, len(found), size):
        told = found[start:start + size]
        yield told[0], dict(zip(JOBS, told[1:])), dict(zip(MACHINES, told[1 + len(JOBS):]))


class HoldsTest(unittest.TestCase):
    def each_step(self):
        """Each step of all lists: the yard before by the plain reckoning, the call, and what the program tells."""
        for seed in range(LISTS):
            calls = drawn_calls(random.Random(seed))
            plain = Plain()
            for number, (call, (told, wheres, frees)) in enumerate(zip(calls, steps_of(calls), strict=True)):
                yield (seed, number), plain, call, told, wheres, frees
                plain.ask(call)

    def test_each_answer_by_the_plain_reckoning(self):
        seen = {}
        for which, plain, call, told, wheres, frees in self.each_step():
            after = Plain()
            after.machines = dict(plain.machines)
            after.jobs = {j: Record(**q.__dict__) for j, q in plain.jobs.items()}
            self.assertEqual(told, after.ask(call), which)
            self.assertEqual(wheres, {j: after.where(j) for j in JOBS}, which)
            self.assertEqual(frees, {i: after.free(i) for i in MACHINES}, which)
            kind = (call[0], told[0], told[2] if told[0] == 1 else told[1] < 0)
            seen[kind] = seen.get(kind, 0) + 1
        # So that the lists are seen to bring what they are drawn for.
        for kind in ((1, 0, True), (2, 0, True), (2, 0, False), (4, 0, True), (4, 0, False), (5, 0, True), (5, 1, 0),
                     (5, 1, 1), (5, 1, 2)):
            self.assertGreater(seen.get(kind, 0), 10, kind)

    def test_never_more_than_there_is_and_all_copies_or_none(self):
        for which, plain, call, told, wheres, frees in self.each_step():
            if call == START:
                continue
            after = Plain()
            after.machines, after.jobs = dict(plain.machines), dict(plain.jobs)
            if call[0] == 1 and told[1] > 0:
                after.machine(*call[1:])
            if call[0] == 2:
                after.machines.pop(call[1], None)
            if call[0] == 3 and told[1] > 0:
                after.job(*call[1:])
            if call[0] == 4:
                after.jobs.pop(call[1], None)
            on_them = {j: told_of[2:] for j, told_of in wheres.items() if told_of[0] == 2}
            self.assertTrue(all(len(places) == after.jobs[j].copies for j, places in on_them.items()), which)
            self.assertTrue(all(i in after.machines for places in on_them.values() for i in places), which)
            self.assertTrue(after.right(on_them), which)
            self.assertTrue(all(min(four[1:]) >= 0 for four in frees.values() if four[0] == 3), which)

    def test_not_in_vain(self):
        for which, plain, call, told, wheres, frees in self.each_step():
            if call == TURN and told[0] == 1:
                j, out = told[1], told[3:]
                self.assertEqual(out, sorted(out), which)
                self.assertTrue(all(plain.jobs[x].rank < plain.jobs[j].rank for x in out), which)
                self.assertTrue(plain.any_way(j, out), which)
                for spared in out:
                    self.assertFalse(plain.any_way(j, [x for x in out if x != spared]), which)

    def test_the_first_that_can_be_placed_anyhow_is_placed(self):
        for which, plain, call, told, wheres, frees in self.each_step():
            if call == TURN:
                can = [j for j in plain.waiting() if plain.any_way(j, plain.lesser(j))]
                self.assertEqual(told[:2], [1, can[0]] if can else NONE_PLACED, which)

    def test_who_runs_and_is_not_put_out_stays(self):
        for which, plain, call, told, wheres, frees in self.each_step():
            for j, q in plain.jobs.items():
                put_out = told[3:] if told[0] == 1 else []
                gone = call == START or call in (end(j), *[down(i) for i in q.places])
                if q.places and j not in put_out and not gone:
                    self.assertEqual(wheres[j], on(*q.places), which)

    def test_it_settles(self):
        for seed in range(LISTS):
            calls = [call for call in drawn_calls(random.Random(seed)) if call != START]
            told = split(answers(joined(START, *calls, *[TURN] * MOST_TURNS)))[-MOST_TURNS:]
            self.assertIn(NONE_PLACED, told, seed)
            first = told.index(NONE_PLACED)
            self.assertEqual(told[first:], [NONE_PLACED] * (MOST_TURNS - first), seed)

    def test_asked_twice_is_answered_alike_and_the_list_stays(self):
        for seed in range(LISTS):
            calls = with_all_asked(drawn_calls(random.Random(seed)))
            before = list(calls)
            first = answers(calls)
            self.assertTrue(calls == before, seed)
            self.assertTrue(answers(calls) == first, seed)


if __name__ == "__main__":
    unittest.main()
