import unittest

from helper import (MOST_ROOM, MOST_WHOLE, NOT_THERE, TURN, alone, down, end, free, job, last_told, machine, placed,
                    room, told_by)


class FreeTest(unittest.TestCase):
    def test_no_such_machine(self):
        for i in (0, 1, 63, 64, 65, 127, 128, 4294967296, MOST_WHOLE):
            self.assertEqual(told_by(free(i)), [NOT_THERE], i)
            self.assertEqual(told_by(machine(5), free(i)), [alone(1), NOT_THERE], i)

    def test_a_job_number_is_not_a_machine_number(self):
        self.assertEqual(told_by(job(5), free(5)), [alone(1), NOT_THERE])

    def test_a_machine_that_was_refused_is_not_there(self):
        self.assertEqual(told_by(machine(5, none=1), free(5)), [alone(-22), NOT_THERE])

    def test_a_machine_that_is_gone(self):
        self.assertEqual(told_by(machine(5), down(5), free(5)), [alone(1), alone(0), NOT_THERE])

    def test_no_copies(self):
        self.assertEqual(told_by(machine(63, (1, 2, 3, 4)), free(63)), [alone(1), room(1, 2, 3, 4)])
        self.assertEqual(told_by(machine(0, (0, 0, 0, 0)), free(0)), [alone(1), room(0, 0, 0, 0)])
        self.assertEqual(told_by(machine(0, (MOST_ROOM,) * 4), free(0)), [alone(1), room(*[MOST_ROOM] * 4)])

    def test_jobs_that_wait_take_nothing(self):
        self.assertEqual(last_told(1, machine(0), job(0), job(1), free(0)), [room(4, 4, 4, 4)])

    def test_copies_of_one_job(self):
        told = last_told(3, machine(0, (9, 9, 9, 9)), machine(1, (9, 8, 7, 6)), machine(2, (5, 5, 5, 5)),
                         job(0, (3, 2, 1, 0), copies=5), TURN, free(0), free(1), free(2))
        self.assertEqual(told, [room(0, 3, 6, 9), room(3, 4, 5, 6), room(5, 5, 5, 5)])

    def test_copies_of_several_jobs(self):
        told = last_told(2, machine(0, (9, 9, 9, 9)), machine(1), job(0, (1, 2, 0, 0), copies=2), job(1, (0, 1, 3, 0)),
                         job(2, (0, 0, 1, 4), copies=3), job(3, (9, 0, 0, 0)), TURN, TURN, TURN, TURN, free(0), free(1))
        self.assertEqual(told, [room(7, 4, 4, 1), room(4, 4, 3, 0)])

    def test_nothing_is_left(self):
        told = last_told(1, machine(0, (MOST_ROOM,) * 4), job(0, (MOST_ROOM,) * 4), TURN, free(0))
        self.assertEqual(told, [room(0, 0, 0, 0)])

    def test_128_jobs_on_it(self):
        jobs = [job(j, (1, 2, 0, 0)) for j in range(128)]
        told = last_told(1, machine(0, (129, 256, 7, 0)), *jobs, *[TURN] * 128, free(0))
        self.assertEqual(told, [room(1, 0, 7, 0)])

    def test_after_end(self):
        told = last_told(3, machine(0), job(0, (1, 2, 0, 0), copies=2), job(1, (2, 0, 1, 1)), TURN, TURN, free(0),
                         end(0), free(0))
        self.assertEqual(told, [room(0, 0, 3, 3), alone(1), room(2, 4, 3, 3)])

    def test_after_jobs_are_put_out(self):
        told = last_told(6, machine(0), machine(1), job(0, (1, 1, 0, 0), copies=8), TURN, free(0), free(1),
                         job(1, (1, 0, 0, 3), rank=1), TURN, free(0), free(1))
        self.assertEqual(told, [room(0, 0, 4, 4), room(0, 0, 4, 4), alone(2), placed(1, 0), room(3, 4, 4, 1),
                                room(4, 4, 4, 4)])

    def test_after_a_machine_went_down(self):
        told = last_told(2, machine(0), machine(1), job(0, copies=6), TURN, down(1), free(0))
        self.assertEqual(told, [alone(1), room(4, 4, 4, 4)])

    def test_asked_twice(self):
        told = last_told(2, machine(0), job(0), TURN, free(0), free(0))
        self.assertEqual(told, [room(3, 3, 3, 3), room(3, 3, 3, 3)])


if __name__ == "__main__":
    unittest.main()
