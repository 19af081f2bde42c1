import unittest

from helper import MOST_WHOLE, START, down, job, machine, numbers
from jobyard.records import Job, Machine
from jobyard.yard import Yard


def yard_with(machines, places_of_jobs):
    """A yard with these machines, and with jobs whose copies are on them already."""
    yard = Yard()
    yard.jo_start()
    for i in machines:
        yard.jo_machine(i, Machine([9, 9, 9, 9, 0, 0, 0]))
    for j, places in places_of_jobs.items():
        yard.jo_job(j, Job([1, 1, 1, 1, 0, 0, max(1, len(places)), 0, 0, 0]))
        yard.jobs[j].places = places
    return yard


def places_in(yard):
    return {j: there.places for j, there in yard.jobs.items()}


class DownTest(unittest.TestCase):
    def test_no_such_machine(self):
        for i in (0, 1, 63, 64, 127, 4294967296, MOST_WHOLE):
            self.assertEqual(numbers(down(i)), [-2], i)
            self.assertEqual(numbers(machine(5), down(i)), [1, -2], i)

    def test_no_job_had_a_copy_on_it(self):
        self.assertEqual(numbers(machine(0), machine(63), down(63), down(0)), [1, 2, 0, 0])

    def test_a_job_that_waits_has_no_copy_on_it(self):
        self.assertEqual(numbers(machine(0), job(0), job(1), down(0)), [1, 1, 2, 0])

    def test_it_is_gone(self):
        self.assertEqual(numbers(machine(5), down(5), down(5)), [1, 0, -2])
        self.assertEqual(numbers(machine(5), machine(6), down(5), machine(7)), [1, 2, 0, 2])

    def test_its_number_can_be_given_anew(self):
        self.assertEqual(numbers(machine(5), down(5), machine(5), machine(5)), [1, 0, 1, -17])

    def test_the_jobs_are_still_there(self):
        self.assertEqual(numbers(machine(5), job(5), down(5), job(5), job(6)), [1, 1, 0, -17, 2])

    def test_a_refusal_changes_nothing(self):
        self.assertEqual(numbers(machine(5), down(4), machine(5), machine(6)), [1, -2, -17, 2])

    def test_a_job_number_is_not_a_machine_number(self):
        self.assertEqual(numbers(job(5), down(5), START, down(5)), [1, -2, 0, -2])

    def test_each_job_that_has_a_copy_on_it_waits(self):
        yard = yard_with([1, 2, 3], {8: [1, 1], 9: [2, 3], 4: [], 5: [1, 2, 3], 6: [3]})
        self.assertEqual(yard.jo_down(1), 2)
        self.assertEqual(places_in(yard), {8: [], 9: [2, 3], 4: [], 5: [], 6: [3]})
        self.assertEqual(sorted(yard.machines), [2, 3])

    def test_copies_of_one_job_count_once(self):
        yard = yard_with([1], {8: [1, 1, 1]})
        self.assertEqual(yard.jo_down(1), 1)

    def test_a_job_that_waits_again_stands_where_it_stood(self):
        yard = yard_with([1, 2], {8: [2], 3: [1], 5: []})
        self.assertEqual(yard.jo_down(2), 1)
        self.assertEqual(list(yard.jobs), [8, 3, 5])

    def test_a_machine_given_anew_has_no_copies(self):
        yard = yard_with([1], {8: [1]})
        yard.jo_down(1)
        yard.jo_machine(1, Machine([9, 9, 9, 9, 0, 0, 0]))
        self.assertEqual(yard.jo_down(1), 0)

    def test_where_no_such_machine_is_all_copies_stay(self):
        yard = yard_with([1, 2], {8: [1, 2]})
        self.assertEqual(yard.jo_down(3), -2)
        self.assertEqual(places_in(yard), {8: [1, 2]})


if __name__ == "__main__":
    unittest.main()
