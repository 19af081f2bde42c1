import unittest

from helper import (MOST_WHOLE, NONE_PLACED, NOT_THERE, START, TURN, WAITS, alone, down, end, free, job, last_told,
                    machine, numbers, on, placed, room, where)
from jobyard.records import Job, Machine
from jobyard.yard import Yard


def yard_with(machines, places_of_jobs):
    """A yard with these machines, and with jobs whose copies are on them already."""
    yard = Yard()
    yard.jo_start()
    for i in machines:
        yard.jo_machine(i, Machine([9, 9, 9, 9, 0, 0, 0]))
    for j, places in places_of_jobs.items():
        yard.jo_job(j, Job([1, 1, 1, 1, 0, 0, max(1, len(places)), 0, 0, 0]))
        yard.jobs[j].places = places
    return yard


def places_in(yard):
    return {j: there.places for j, there in yard.jobs.items()}


class DownTest(unittest.TestCase):
    def test_no_such_machine(self):
        for i in (0, 1, 63, 64, 127, 4294967296, MOST_WHOLE):
            self.assertEqual(numbers(down(i)), [-2], i)
            self.assertEqual(numbers(machine(5), down(i)), [1, -2], i)

    def test_no_job_had_a_copy_on_it(self):
        self.assertEqual(numbers(machine(0), machine(63), down(63), down(0)), [1, 2, 0, 0])

    def test_a_job_that_waits_has_no_copy_on_it(self):
        self.assertEqual(numbers(machine(0), job(0), job(1), down(0)), [1, 1, 2, 0])

    def test_it_is_gone(self):
        self.assertEqual(numbers(machine(5), down(5), down(5)), [1, 0, -2])
        self.assertEqual(numbers(machine(5), machine(6), down(5), machine(7)), [1, 2, 0, 2])

    def test_its_number_can_be_given_anew(self):
        self.assertEqual(numbers(machine(5), down(5), machine(5), machine(5)), [1, 0, 1, -17])

    def test_the_jobs_are_still_there(self):
        self.assertEqual(numbers(machine(5), job(5), down(5), job(5), job(6)), [1, 1, 0, -17, 2])

    def test_a_refusal_changes_nothing(self):
        self.assertEqual(numbers(machine(5), down(4), machine(5), machine(6)), [1, -2, -17, 2])

    def test_a_job_number_is_not_a_machine_number(self):
        self.assertEqual(numbers(job(5), down(5), START, down(5)), [1, -2, 0, -2])

    def test_each_job_that_has_a_copy_on_it_waits(self):
        yard = yard_with([1, 2, 3], {8: [1, 1], 9: [2, 3], 4: [], 5: [1, 2, 3], 6: [3]})
        self.assertEqual(yard.jo_down(1), 2)
        self.assertEqual(places_in(yard), {8: [], 9: [2, 3], 4: [], 5: [], 6: [3]})
        self.assertEqual(sorted(yard.machines), [2, 3])

    def test_copies_of_one_job_count_once(self):
        yard = yard_with([1], {8: [1, 1, 1]})
        self.assertEqual(yard.jo_down(1), 1)

    def test_a_job_that_waits_again_stands_where_it_stood(self):
        yard = yard_with([1, 2], {8: [2], 3: [1], 5: []})
        self.assertEqual(yard.jo_down(2), 1)
        self.assertEqual(list(yard.jobs), [8, 3, 5])

    def test_a_machine_given_anew_has_no_copies(self):
        yard = yard_with([1], {8: [1]})
        yard.jo_down(1)
        yard.jo_machine(1, Machine([9, 9, 9, 9, 0, 0, 0]))
        self.assertEqual(yard.jo_down(1), 0)

    def test_where_no_such_machine_is_all_copies_stay(self):
        yard = yard_with([1, 2], {8: [1, 2]})
        self.assertEqual(yard.jo_down(3), -2)
        self.assertEqual(places_in(yard), {8: [1, 2]})


class DownWhereJobsRunTest(unittest.TestCase):
    def test_half_a_gang_on_it(self):
        told = last_told(7, machine(0), machine(1), job(5, (2, 1, 0, 2), copies=4), TURN, where(5), down(0), where(5),
                         free(0), free(1), TURN)
        self.assertEqual(told, [placed(5), on(0, 0, 1, 1), alone(1), WAITS, NOT_THERE, room(4, 4, 4, 4), NONE_PLACED])

    def test_a_gang_on_it_alone(self):
        told = last_told(3, machine(0), machine(1), job(5, copies=4), TURN, down(0), where(5), free(1))
        self.assertEqual(told, [alone(1), WAITS, room(4, 4, 4, 4)])

    def test_how_many_jobs_that_were(self):
        told = last_told(9, machine(0), machine(1), job(5, copies=2), job(6), job(7, copies=3), job(8),
                         job(9, copies=9), *[TURN] * 5, down(0), where(5), where(6), where(7), where(8), where(9),
                         free(1), down(0), down(1))
        self.assertEqual(told, [alone(3), WAITS, WAITS, WAITS, on(1), WAITS, room(3, 3, 3, 3), NOT_THERE, alone(1)])

    def test_none_that_runs_elsewhere_waits(self):
        told = last_told(4, machine(0), machine(1), job(5, copies=4), TURN, down(1), where(5), free(0), TURN)
        self.assertEqual(told, [alone(0), on(0, 0, 0, 0), room(0, 0, 0, 0), NONE_PLACED])

    def test_they_are_placed_again_on_what_is_left(self):
        told = last_told(3, machine(0), machine(1, (9, 9, 9, 9)), job(5, copies=6), TURN, down(0), TURN, where(5))
        self.assertEqual(told, [alone(1), placed(5), on(1, 1, 1, 1, 1, 1)])

    def test_one_that_came_back_has_no_copies(self):
        told = last_told(4, machine(0), job(5), TURN, down(0), machine(0, (7, 7, 7, 7)), free(0), where(5))
        self.assertEqual(told, [alone(1), alone(1), room(7, 7, 7, 7), WAITS])

    def test_one_that_waits_again_can_be_ended(self):
        told = last_told(3, machine(0), job(5), job(6), TURN, TURN, down(0), end(5), where(5))
        self.assertEqual(told, [alone(2), alone(1), NOT_THERE])

    def test_one_that_was_put_out_of_it_is_not_counted(self):
        told = last_told(2, machine(0), job(5, copies=4), TURN, job(6, copies=4, rank=1), TURN, down(0))
        self.assertEqual(told, [placed(6, 5), alone(1)])

    def test_a_refusal_leaves_all_copies_where_they_are(self):
        told = last_told(3, machine(0), job(5, copies=2), TURN, down(1), where(5), free(0))
        self.assertEqual(told, [NOT_THERE, on(0, 0), room(2, 2, 2, 2)])


if __name__ == "__main__":
    unittest.main()
