import unittest

from helper import (NONE_PLACED, NOT_THERE, START, TURN, WAITS, alone, down, end, free, job, last_told, machine,
                    numbers, on, placed, room, where)
from jobyard.yard import Yard, answers


class StartTest(unittest.TestCase):
    def test_start_answers_0(self):
        self.assertEqual(answers([0]), [2, 0, 0])

    def test_start_again_and_again_answers_0(self):
        self.assertEqual(answers([0, 0, 0]), [2, 0, 0] * 3)

    def test_start_again_takes_the_machines_away(self):
        told = numbers(machine(3), machine(4), START, down(3), down(4))
        self.assertEqual(told, [1, 2, 0, -2, -2])

    def test_start_again_lets_machine_numbers_be_given_anew(self):
        told = numbers(machine(3), machine(4), START, machine(4), machine(3))
        self.assertEqual(told, [1, 2, 0, 1, 2])

    def test_start_again_lets_job_numbers_be_given_anew(self):
        told = numbers(job(3), job(4), START, job(4), job(3), job(4))
        self.assertEqual(told, [1, 2, 0, 1, 2, -17])

    def test_start_again_after_all_numbers_are_given(self):
        machines = [machine(i) for i in range(64)]
        jobs = [job(j) for j in range(128)]
        told = numbers(*machines, *jobs, START, machine(0), job(0))
        self.assertEqual(told[-3:], [0, 1, 1])

    def test_start_again_in_the_middle(self):
        told = last_told(6, machine(3), job(4), job(5, copies=9), TURN, START, where(4), where(5), free(3), TURN,
                         end(4))
        self.assertEqual(told, [alone(0), NOT_THERE, NOT_THERE, NOT_THERE, NONE_PLACED, NOT_THERE])

    def test_start_again_leaves_nothing_of_what_ran(self):
        told = last_told(7, machine(3), job(4, copies=4, rank=7), TURN, START, machine(3), job(4), where(4), free(3),
                         TURN, where(4), free(3))
        self.assertEqual(told, [alone(1), alone(1), WAITS, room(4, 4, 4, 4), placed(4), on(3), room(3, 3, 3, 3)])

    def test_start_again_forgets_the_row(self):
        told = last_told(2, machine(3), job(4), job(5), START, machine(3), job(5), job(4), TURN, TURN)
        self.assertEqual(told, [placed(5), placed(4)])

    def test_a_new_yard_has_nothing_before_start(self):
        yard = Yard()
        self.assertEqual((yard.machines, yard.jobs), ({}, {}))


if __name__ == "__main__":
    unittest.main()
