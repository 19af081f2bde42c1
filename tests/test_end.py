import unittest

from helper import (MOST_WHOLE, NONE_PLACED, NOT_THERE, START, TURN, WAITS, alone, end, free, job, last_told, machine,
                    numbers, on, placed, room, told_by, where)


class EndTest(unittest.TestCase):
    def test_no_such_job(self):
        for j in (0, 1, 126, 127, 128, 129, 4294967296, MOST_WHOLE):
            self.assertEqual(told_by(end(j)), [NOT_THERE], j)
            self.assertEqual(told_by(job(5), end(j)), [alone(1), NOT_THERE], j)

    def test_a_machine_number_is_not_a_job_number(self):
        self.assertEqual(numbers(machine(5), end(5)), [1, -2])

    def test_how_many_are_left(self):
        self.assertEqual(numbers(job(5), job(0), job(127), end(0), end(127), end(5)), [1, 2, 3, 2, 1, 0])

    def test_all_128_jobs(self):
        told = numbers(*[job(j) for j in range(128)], *[end(j) for j in range(128)], end(127))
        self.assertEqual(told[128:], list(range(127, -1, -1)) + [-2])

    def test_machines_are_not_counted_and_stay(self):
        self.assertEqual(numbers(machine(1), machine(2), job(1), end(1), machine(3)), [1, 2, 1, 0, 3])

    def test_of_a_job_that_waits(self):
        told = last_told(6, machine(0), job(1), job(2), end(1), where(1), end(1), TURN, TURN, where(2))
        self.assertEqual(told, [alone(1), NOT_THERE, NOT_THERE, placed(2), NONE_PLACED, on(0)])

    def test_of_the_only_job_that_waits(self):
        self.assertEqual(last_told(2, machine(0), job(1), end(1), TURN), [alone(0), NONE_PLACED])

    def test_of_a_job_that_runs(self):
        told = last_told(4, machine(0), job(1), TURN, end(1), where(1), end(1), TURN)
        self.assertEqual(told, [alone(0), NOT_THERE, NOT_THERE, NONE_PLACED])

    def test_what_it_had_is_free(self):
        told = last_told(5, machine(0), machine(3), job(1, (4, 3, 2, 1), copies=2), TURN, free(0), free(3), end(1),
                         free(0), free(3))
        self.assertEqual(told, [room(0, 1, 2, 3), room(0, 1, 2, 3), alone(0), room(4, 4, 4, 4), room(4, 4, 4, 4)])

    def test_what_it_had_can_be_had_by_another(self):
        told = last_told(5, machine(0), job(1, (4, 0, 0, 0)), job(2, (4, 0, 0, 0)), TURN, TURN, end(1), TURN, where(2))
        self.assertEqual(told, [placed(1), NONE_PLACED, alone(1), placed(2), on(0)])

    def test_others_stay_as_they_were(self):
        told = last_told(4, machine(0), machine(1), job(1, (4, 0, 0, 0)), job(2, (4, 0, 0, 0)), job(3, (9, 0, 0, 0)),
                         TURN, TURN, end(1), where(2), where(3), free(1))
        self.assertEqual(told, [alone(2), on(1), WAITS, room(0, 4, 4, 4)])

    def test_a_refusal_changes_nothing(self):
        told = last_told(4, machine(0), job(1), TURN, end(2), where(1), free(0), job(2))
        self.assertEqual(told, [NOT_THERE, on(0), room(3, 3, 3, 3), alone(2)])

    def test_a_number_given_anew_waits(self):
        told = last_told(3, machine(0), job(1), TURN, end(1), job(1), where(1), free(0))
        self.assertEqual(told, [alone(1), WAITS, room(4, 4, 4, 4)])

    def test_a_number_given_anew_comes_last_in_the_row(self):
        whole = (4, 4, 4, 4)
        for before in ([], [TURN]):
            told = last_told(6, machine(0), job(1, whole), job(2, whole), job(3, whole), *before, end(1), job(1, whole),
                             TURN, end(2), TURN, end(3), TURN, where(1))
            self.assertEqual(told, [placed(2), alone(2), placed(3), alone(1), placed(1), on(0)], before)

    def test_a_number_given_anew_is_another_job(self):
        told = last_told(3, machine(0), job(1, (9, 0, 0, 0), copies=2, rank=7), TURN, end(1),
                         job(1, (0, 0, 0, 2), copies=1), TURN, where(1), free(0))
        self.assertEqual(told, [placed(1), on(0), room(4, 4, 4, 2)])

    def test_after_start_came_again(self):
        self.assertEqual(numbers(job(2), START, end(2)), [1, 0, -2])


if __name__ == "__main__":
    unittest.main()
