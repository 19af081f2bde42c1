import unittest

from helper import (MOST_WHOLE, NONE_PLACED, NOT_THERE, TURN, WAITS, alone, down, end, job, last_told, machine, on,
                    placed, told_by, where)


class WhereTest(unittest.TestCase):
    def test_no_such_job(self):
        for j in (0, 1, 127, 128, 4294967296, MOST_WHOLE):
            self.assertEqual(told_by(where(j)), [NOT_THERE], j)
            self.assertEqual(told_by(job(5), where(j)), [alone(1), NOT_THERE], j)

    def test_a_machine_number_is_not_a_job_number(self):
        self.assertEqual(told_by(machine(5), where(5)), [alone(1), NOT_THERE])

    def test_a_job_that_was_refused_is_not_there(self):
        self.assertEqual(told_by(job(5, copies=0), where(5)), [alone(-22), NOT_THERE])

    def test_it_waits(self):
        self.assertEqual(told_by(job(0), where(0)), [alone(1), WAITS])
        self.assertEqual(last_told(2, machine(0), job(127), where(127), where(127)), [WAITS, WAITS])

    def test_one_copy(self):
        self.assertEqual(last_told(1, machine(7), job(127), TURN, where(127)), [on(7)])
        self.assertEqual(last_told(1, machine(0), job(0), TURN, where(0)), [on(0)])

    def test_of_each_copy_the_machine(self):
        told = last_told(1, machine(63), machine(9, (1, 1, 1, 1)), machine(2, (2, 2, 2, 2)), job(3, copies=6), TURN,
                         where(3))
        self.assertEqual(told, [on(2, 2, 9, 63, 63, 63)])

    def test_16_copies(self):
        told = last_told(1, machine(1, (16, 16, 16, 16)), job(3, copies=16), TURN, where(3))
        self.assertEqual(told, [on(*[1] * 16)])

    def test_asked_twice(self):
        self.assertEqual(last_told(2, machine(1), job(3, copies=2), TURN, where(3), where(3)), [on(1, 1), on(1, 1)])

    def test_it_waits_again(self):
        self.assertEqual(last_told(1, machine(1), job(3), TURN, down(1), where(3)), [WAITS])
        told = last_told(2, machine(1), job(3, copies=4), TURN, job(4, copies=4, rank=1), TURN, where(3), where(4))
        self.assertEqual(told, [WAITS, on(1, 1, 1, 1)])

    def test_who_runs_stays_where_it_is(self):
        """Room on machines of lesser numbers comes, and goes again, and nobody is moved into it."""
        steps = [machine(0), job(4, copies=4), TURN, job(5, (5, 5, 5, 5)), TURN, end(4), TURN, job(6, rank=7), TURN,
                 machine(1, (9, 9, 9, 9)), TURN, job(7, (9, 9, 9, 9), rank=7), TURN, down(0), down(1), TURN, end(7),
                 TURN]
        calls = [machine(2), machine(3), job(3, copies=6), TURN]
        for step in steps:
            calls += [step, where(3)]
        told = told_by(*calls)
        self.assertEqual(told[5::2], [on(2, 2, 2, 2, 3, 3)] * len(steps))
        self.assertEqual(told[4::2], [alone(3), alone(2), placed(4), alone(3), NONE_PLACED, alone(2), NONE_PLACED,
                                      alone(3), placed(6), alone(4), placed(5), alone(4), placed(7, 5), alone(1),
                                      alone(1), placed(6), alone(3), NONE_PLACED])

    def test_the_others_do_not_move_when_one_is_put_out(self):
        told = last_told(4, machine(0), machine(1), job(1, copies=4), job(2, copies=2), job(3, copies=2), TURN, TURN,
                         TURN, end(1), job(4, (2, 2, 2, 2), copies=3, rank=1), TURN, where(2), where(3), where(4))
        self.assertEqual(told, [placed(4, 3), on(1, 1), WAITS, on(0, 0, 1)])


if __name__ == "__main__":
    unittest.main()
