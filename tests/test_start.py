import unittest

from helper import START, down, job, machine, numbers
from jobyard.yard import Yard, answers


class StartTest(unittest.TestCase):
    def test_start_answers_0(self):
        self.assertEqual(answers([0]), [2, 0, 0])

    def test_start_again_and_again_answers_0(self):
        self.assertEqual(answers([0, 0, 0]), [2, 0, 0] * 3)

    def test_start_again_takes_the_machines_away(self):
        told = numbers(machine(3), machine(4), START, down(3), down(4))
        self.assertEqual(told, [1, 2, 0, -2, -2])

    def test_start_again_lets_machine_numbers_be_given_anew(self):
        told = numbers(machine(3), machine(4), START, machine(4), machine(3))
        self.assertEqual(told, [1, 2, 0, 1, 2])

    def test_start_again_lets_job_numbers_be_given_anew(self):
        told = numbers(job(3), job(4), START, job(4), job(3), job(4))
        self.assertEqual(told, [1, 2, 0, 1, 2, -17])

    def test_start_again_after_all_numbers_are_given(self):
        machines = [machine(i) for i in range(64)]
        jobs = [job(j) for j in range(128)]
        told = numbers(*machines, *jobs, START, machine(0), job(0))
        self.assertEqual(told[-3:], [0, 1, 1])

    def test_a_new_yard_has_nothing_before_start(self):
        yard = Yard()
        self.assertEqual((yard.machines, yard.jobs), ({}, {}))


if __name__ == "__main__":
    unittest.main()
