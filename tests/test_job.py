import unittest

from helper import MOST_BELOW_2_32, MOST_ROOM, MOST_WHOLE, START, job, machine, numbers, with_one
from jobyard.records import Job
from jobyard.yard import Yard


class JobTest(unittest.TestCase):
    def check_each(self, name, cases):
        for number, answer in cases:
            self.assertEqual(numbers(job(7, **{name: number})), [answer], (name, number))

    def test_how_many_jobs_there_are(self):
        self.assertEqual(numbers(job(5), job(0), job(126)), [1, 2, 3])

    def test_all_128_jobs(self):
        told = numbers(*[job(j) for j in range(127, -1, -1)], job(128), job(0))
        self.assertEqual(told, list(range(1, 129)) + [-2, -17])

    def test_machines_are_not_counted(self):
        self.assertEqual(numbers(machine(1), machine(2), job(1), job(2)), [1, 2, 1, 2])

    def test_number_127_is_the_last(self):
        self.assertEqual(numbers(job(64)), [1])
        self.assertEqual(numbers(job(127)), [1])
        for j in (128, 129, MOST_BELOW_2_32):
            self.assertEqual(numbers(job(j)), [-2], j)

    def test_a_job_that_is_there(self):
        for j in (0, 1, 127):
            self.assertEqual(numbers(job(j), job(j)), [1, -17], j)

    def test_each_number_in_wants(self):
        for place in range(4):
            for number, answer in ((1, 1), (MOST_ROOM, 1), (MOST_ROOM + 1, -22), (MOST_BELOW_2_32, -22)):
                for others in ((0, 0, 0, 0), (MOST_ROOM,) * 4):
                    wants = with_one(others, place, number)
                    self.assertEqual(numbers(job(7, wants=wants)), [answer], wants)

    def test_wants_all_0(self):
        self.assertEqual(numbers(job(7, wants=(0, 0, 0, 0))), [-22])

    def test_copies(self):
        self.check_each("copies", ((0, -22), (1, 1), (2, 1), (16, 1), (17, -22), (MOST_WHOLE, -22)))

    def test_apart(self):
        self.check_each("apart", ((0, 1), (1, 1), (2, -22), (MOST_WHOLE, -22)))

    def test_spread(self):
        self.check_each("spread", ((0, 1), (1, 1), (16, 1), (17, -22), (MOST_WHOLE, -22)))

    def test_rank(self):
        self.check_each("rank", ((0, 1), (1, 1), (7, 1), (8, -22), (MOST_WHOLE, -22)))

    def test_every_label_is_allowed(self):
        self.check_each("needs", ((0, 1), (1, 1), (32768, 1), (65535, 1)))
        self.check_each("never", ((0, 1), (1, 1), (32768, 1), (65535, 1)))
        self.assertEqual(numbers(job(7, needs=65535, never=65535)), [1])

    def test_all_that_is_allowed_at_once(self):
        self.assertEqual(numbers(job(127, (MOST_ROOM,) * 4, 65535, 65535, 16, 1, 16, 7)), [1])

    def test_the_greatest_numbers_that_can_be_handed_in(self):
        most = [3, 127] + [MOST_BELOW_2_32] * 4 + [65535, 65535] + [MOST_WHOLE] * 4
        self.assertEqual(numbers(most), [-22])
        most[1] = MOST_BELOW_2_32
        self.assertEqual(numbers(most), [-2])

    def test_the_refusal_that_is_named_first(self):
        wrongs = ({"wants": (0, 0, 0, 0)}, {"wants": (0, MOST_ROOM + 1, 0, 0)}, {"copies": 0}, {"copies": 17},
                  {"apart": 2}, {"spread": 17}, {"rank": 8})
        for wrong in wrongs:
            self.assertEqual(numbers(job(128, **wrong)), [-2], wrong)
            self.assertEqual(numbers(job(2), job(2, **wrong)), [1, -17], wrong)
            self.assertEqual(numbers(job(2), job(3, **wrong)), [1, -22], wrong)

    def test_refusals_change_nothing(self):
        told = numbers(job(1), job(128), job(1), job(2, copies=0), job(2), job(3))
        self.assertEqual(told, [1, -2, -17, -22, 2, 3])

    def test_a_job_that_does_not_fit_on_any_machine_is_taken(self):
        self.assertEqual(numbers(machine(0, has=(0, 0, 0, 0)), job(0, wants=(5, 0, 0, 0))), [1, 1])

    def test_a_job_that_is_there_stays_as_it_was(self):
        yard = Yard()
        yard.jo_job(2, Job([1, 2, 3, 4, 5, 6, 7, 1, 8, 3]))
        yard.jobs[2].places = [0] * 7
        self.assertEqual(yard.jo_job(2, Job([9, 9, 9, 9, 9, 9, 9, 0, 9, 5])), -17)
        there = yard.jobs[2]
        self.assertEqual((there.wants, there.needs, there.never), ([1, 2, 3, 4], 5, 6))
        self.assertEqual((there.copies, there.apart, there.spread, there.rank), (7, 1, 8, 3))
        self.assertEqual(there.places, [0] * 7)

    def test_a_new_job_came_last_and_waits(self):
        yard = Yard()
        for j in (9, 3, 127, 0):
            yard.jo_job(j, Job([1, 1, 1, 1, 0, 0, 1, 0, 0, 0]))
        self.assertEqual(list(yard.jobs), [9, 3, 127, 0])
        self.assertEqual([there.places for there in yard.jobs.values()], [[], [], [], []])

    def test_a_number_that_was_given_before_start_came_again(self):
        self.assertEqual(numbers(job(2), START, job(3), job(2), job(2)), [1, 0, 1, 2, -17])


if __name__ == "__main__":
    unittest.main()
