import unittest

from helper import (NONE_PLACED, TURN, WAITS, alone, down, end, free, job, last_told, machine, on, placed, room,
                    told_by, where)

WHOLE = (4, 4, 4, 4)


def whole_job(j, rank=0):
    return job(j, WHOLE, rank=rank)


class NonePlacedTest(unittest.TestCase):
    def test_no_job(self):
        self.assertEqual(told_by(TURN), [NONE_PLACED])
        self.assertEqual(told_by(machine(0), TURN), [alone(1), NONE_PLACED])

    def test_no_machine(self):
        self.assertEqual(told_by(job(0), job(1, rank=7), TURN), [alone(1), alone(2), NONE_PLACED])

    def test_none_that_waits(self):
        self.assertEqual(last_told(3, machine(0), job(0), job(1), TURN, TURN, TURN),
                         [placed(0), placed(1), NONE_PLACED])

    def test_none_that_waits_can_be_placed(self):
        told = last_told(2, machine(0), job(0, (5, 0, 0, 0)), job(1, copies=5, rank=7), job(2, needs=1), TURN, TURN)
        self.assertEqual(told, [NONE_PLACED, NONE_PLACED])

    def test_it_changes_nothing(self):
        told = last_told(7, machine(0), machine(1), job(0, copies=4), job(1, copies=5), TURN, whole_job(2),
                         TURN, TURN, where(0), where(1), where(2), free(0), free(1))
        self.assertEqual(told, [placed(2), NONE_PLACED, on(0, 0, 0, 0), WAITS, on(1), room(0, 0, 0, 0),
                                room(0, 0, 0, 0)])


class RowTest(unittest.TestCase):
    def test_a_job_is_placed_once(self):
        self.assertEqual(last_told(3, machine(0), job(7), TURN, TURN, where(7)), [placed(7), NONE_PLACED, on(0)])

    def test_one_job_each_turn(self):
        told = last_told(5, machine(0), job(7), job(8), TURN, where(7), where(8), TURN, where(8))
        self.assertEqual(told, [placed(7), on(0), WAITS, placed(8), on(0)])

    def test_of_like_rank_those_that_came_first(self):
        told = last_told(5, machine(0), job(9), job(3), job(127), job(0), TURN, TURN, TURN, TURN, TURN)
        self.assertEqual(told, [placed(9), placed(3), placed(127), placed(0), NONE_PLACED])

    def test_of_greater_rank_first(self):
        ranks = (3, 0, 7, 5, 1, 6, 2, 4)
        jobs = [job(j, rank=rank) for j, rank in enumerate(ranks)]
        told = last_told(9, machine(0, (8, 8, 8, 8)), *jobs, *[TURN] * 9)
        self.assertEqual(told, [placed(ranks.index(rank)) for rank in range(7, -1, -1)] + [NONE_PLACED])

    def test_rank_goes_before_when_they_came(self):
        told = last_told(4, machine(0), job(4, rank=1), job(3, rank=2), job(2, rank=1), job(1, rank=2), *[TURN] * 4)
        self.assertEqual(told, [placed(3), placed(1), placed(4), placed(2)])

    def test_all_128_jobs(self):
        machines = [machine(i, (2, 2, 2, 2)) for i in range(64)]
        jobs = [job(j) for j in range(127, -1, -1)]
        told = last_told(129, *machines, *jobs, *[TURN] * 129)
        self.assertEqual(told, [placed(j) for j in range(127, -1, -1)] + [NONE_PLACED])

    def test_one_before_it_in_the_row_cannot_be_placed(self):
        told = last_told(4, machine(0), job(1, (5, 0, 0, 0), rank=7), job(2, copies=5), job(3), job(4), TURN, TURN,
                         TURN, where(1))
        self.assertEqual(told, [placed(3), placed(4), NONE_PLACED, WAITS])

    def test_one_that_was_passed_over_is_still_first(self):
        told = last_told(2, machine(0), job(1, copies=5), job(2), TURN, machine(1), job(3), TURN, where(1))
        self.assertEqual(told, [placed(1), on(0, 0, 0, 1, 1)])

    def test_one_that_was_put_out_stands_where_it_stood(self):
        told = last_told(6, machine(0), whole_job(5), whole_job(6), TURN, whole_job(7, rank=1), whole_job(8), TURN,
                         end(7), TURN, end(5), TURN, where(8))
        self.assertEqual(told, [placed(7, 5), alone(3), placed(5), alone(2), placed(6), WAITS])

    def test_the_one_that_was_put_out_first_is_not_before_one_that_came_first(self):
        told = last_told(6, machine(0), machine(1), whole_job(5), whole_job(6), TURN, TURN, whole_job(7, rank=1), TURN,
                         whole_job(9, rank=1), TURN, end(9), TURN, where(6))
        self.assertEqual(told, [placed(7, 6), alone(4), placed(9, 5), alone(3), placed(5), WAITS])

    def test_one_whose_machine_went_down_stands_where_it_stood(self):
        told = last_told(6, machine(0), whole_job(5), whole_job(6), whole_job(4), TURN, down(0), machine(0), TURN,
                         end(5), TURN, where(4))
        self.assertEqual(told, [alone(1), alone(1), placed(5), alone(2), placed(6), WAITS])

    def test_one_that_waits_again_is_behind_greater_rank(self):
        told = last_told(3, machine(0), whole_job(5), TURN, whole_job(6, rank=1), down(0), machine(0), TURN)
        self.assertEqual(told, [alone(1), alone(1), placed(6)])


if __name__ == "__main__":
    unittest.main()
