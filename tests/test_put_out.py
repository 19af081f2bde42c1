import unittest

from helper import (NONE_PLACED, TURN, WAITS, alone, down, end, free, job, last_told, machine, on, placed, room, where)


def little(j, want, rank=0, **more):
    """A job that wants of the first kind alone."""
    return job(j, (want, 0, 0, 0), rank=rank, **more)


def yard(*has):
    """Machines from number 0 on that have so much of the first kind, and nothing else."""
    return [machine(i, (a, 0, 0, 0)) for i, a in enumerate(has)]


def running(*jobs):
    """These jobs come, each placed before the next comes."""
    return [call for one in jobs for call in (one, TURN)]


class WhomItPutsOutTest(unittest.TestCase):
    def test_none_where_it_fits_without(self):
        told = last_told(3, *yard(4), *running(little(0, 2)), little(1, 2, 7), TURN, where(0), where(1))
        self.assertEqual(told, [placed(1), on(0), on(0)])

    def test_none_where_it_fits_on_another_machine(self):
        told = last_told(3, *yard(4, 4), *running(little(0, 4)), little(1, 4, 7), TURN, where(0), where(1))
        self.assertEqual(told, [placed(1), on(0), on(1)])

    def test_one_of_lesser_rank(self):
        told = last_told(5, *yard(4), *running(little(0, 3)), little(1, 2, 1), TURN, where(0), where(1), free(0), TURN)
        self.assertEqual(told, [placed(1, 0), WAITS, on(0), room(2, 0, 0, 0), NONE_PLACED])

    def test_each_lesser_rank(self):
        for rank in range(8):
            for lesser in range(8):
                told = last_told(2, *yard(4), *running(little(0, 4, lesser)), little(1, 4, rank), TURN, where(0))
                expected = [placed(1, 0), WAITS] if lesser < rank else [NONE_PLACED, on(0)]
                self.assertEqual(told, expected, (rank, lesser))

    def test_only_those_of_lesser_rank(self):
        told = last_told(5, *yard(6), *running(little(0, 2, 3), little(1, 2, 2), little(2, 2, 1)), little(3, 2, 2),
                         TURN, where(0), where(1), where(2), where(3))
        self.assertEqual(told, [placed(3, 2), on(0), on(0), WAITS, on(0)])

    def test_nobody_where_it_cannot_be_placed_with_all_put_out(self):
        told = last_told(4, *yard(6), *running(little(0, 3, 2), little(1, 3)), little(2, 4, 2), TURN, where(0),
                         where(1), free(0))
        self.assertEqual(told, [NONE_PLACED, on(0), on(0), room(0, 0, 0, 0)])

    def test_two_of_like_rank_do_not_put_out_each_other(self):
        told = last_told(5, *yard(4), little(0, 4, 3), little(1, 4, 3), TURN, TURN, TURN, where(0), where(1))
        self.assertEqual(told, [placed(0), NONE_PLACED, NONE_PLACED, on(0), WAITS])

    def test_all_of_them(self):
        told = last_told(3, *yard(7), *running(*[little(j, 1, j) for j in range(6, -1, -1)]), little(7, 7, 7), TURN,
                         where(7), TURN)
        self.assertEqual(told, [placed(7, 0, 1, 2, 3, 4, 5, 6), on(0), NONE_PLACED])

    def test_127_little_ones(self):
        told = last_told(2, *yard(127), *[little(j, 1) for j in range(127)], *[TURN] * 127, little(127, 127, 1), TURN,
                         where(127))
        self.assertEqual(told, [placed(127, *range(127)), on(0)])

    def test_told_rising_though_they_came_otherwise(self):
        told = last_told(1, *yard(6), *running(little(9, 2, 1), little(4, 2), little(100, 2, 2)), little(50, 6, 3),
                         TURN)
        self.assertEqual(told, [placed(50, 4, 9, 100)])

    def test_a_gang_is_put_out_whole(self):
        told = last_told(6, *yard(2, 2, 2), *running(little(0, 2, copies=3)), little(1, 1, 1), TURN, where(0), free(0),
                         free(1), free(2), TURN)
        self.assertEqual(told, [placed(1, 0), WAITS, room(1, 0, 0, 0), room(2, 0, 0, 0), room(2, 0, 0, 0), NONE_PLACED])

    def test_a_gang_puts_out_on_many_machines(self):
        told = last_told(2, *yard(2, 2, 2), *running(little(7, 2), little(6, 1), little(5, 2)),
                         little(1, 2, 1, copies=3), TURN, where(1))
        self.assertEqual(told, [placed(1, 5, 6, 7), on(0, 1, 2)])

    def test_one_on_a_machine_with_wrong_labels_is_spared(self):
        machines = [machine(0, (2, 0, 0, 0), labels=1), machine(1, (2, 0, 0, 0), labels=2)]
        told = last_told(2, *machines, *running(little(0, 2), little(1, 2)), little(2, 2, 1, needs=2), TURN, where(2))
        self.assertEqual(told, [placed(2, 1), on(1)])
        told = last_told(2, *machines, *running(little(0, 2), little(1, 2)), little(2, 2, 1, never=2), TURN, where(2))
        self.assertEqual(told, [placed(2, 0), on(0)])

    def test_one_before_it_in_the_row_puts_out_nobody(self):
        told = last_told(2, *yard(4), *running(little(0, 3)), little(1, 5, 7), little(2, 4, 6), TURN, where(1))
        self.assertEqual(told, [placed(2, 0), WAITS])


class SparedTest(unittest.TestCase):
    def test_of_greater_rank_first(self):
        for first, second in ((1, 0), (0, 1)):
            told = last_told(1, *yard(4), *running(little(5, 2, first), little(6, 2, second)), little(7, 2, 2), TURN)
            self.assertEqual(told, [placed(7, 6 if first == 1 else 5)], first)

    def test_of_like_rank_those_that_came_first(self):
        for first, second in ((5, 6), (6, 5)):
            told = last_told(1, *yard(4), *running(little(first, 2), little(second, 2)), little(7, 2, 1), TURN)
            self.assertEqual(told, [placed(7, second)], first)

    def test_came_first_is_by_when_it_came_not_by_when_it_was_placed(self):
        again = machine(1, (2, 0, 0, 0))
        told = last_told(2, *yard(0, 2, 2), *running(little(5, 2), little(6, 2)), down(1), again, TURN,
                         little(7, 2, 1), TURN, where(7))
        self.assertEqual(told, [placed(7, 6), on(2)])

    def test_a_number_given_anew_came_last(self):
        told = last_told(1, *yard(4), *running(little(6, 2), little(4, 2)), end(6), *running(little(6, 2)),
                         little(7, 2, 1), TURN)
        self.assertEqual(told, [placed(7, 6)])

    def test_each_is_looked_at_beside_those_that_are_spared_already(self):
        told = last_told(1, *yard(6), *running(little(1, 2), little(2, 2), little(3, 2)), little(7, 3, 1), TURN)
        self.assertEqual(told, [placed(7, 2, 3)])

    def test_one_that_is_not_enough_and_one_that_is_more_than_enough(self):
        told = last_told(1, *yard(6), *running(little(1, 4), little(2, 2)), little(7, 3, 1), TURN)
        self.assertEqual(told, [placed(7, 1)])
        told = last_told(1, *yard(6), *running(little(2, 2), little(1, 4)), little(7, 3, 1), TURN)
        self.assertEqual(told, [placed(7, 1)])

    def test_two_little_ones_are_put_out_where_one_great_one_would_do(self):
        for great_rank in (0, 1):
            told = last_told(5, *yard(8), *running(little(1, 4, great_rank), little(3, 2), little(2, 2)),
                             little(7, 4, 2), TURN, where(1), where(2), where(3), where(7))
            self.assertEqual(told, [placed(7, 2, 3), on(0), WAITS, WAITS, on(0)], great_rank)

    def test_one_great_one_where_the_little_ones_came_first(self):
        told = last_told(1, *yard(8), *running(little(3, 2), little(2, 2), little(1, 4)), little(7, 4, 1), TURN)
        self.assertEqual(told, [placed(7, 1)])

    def test_the_places_are_found_beside_those_that_are_spared(self):
        told = last_told(4, *yard(3, 3), *running(little(1, 3), little(2, 2)), little(7, 2, 1, copies=1), TURN,
                         where(1), where(2), where(7))
        self.assertEqual(told, [placed(7, 2), on(0), WAITS, on(1)])

    def test_one_that_needs_not_be_put_out_as_another_frees_both_machines(self):
        told = last_told(3, *yard(3, 3), *running(little(1, 1), little(2, 2, copies=2), little(3, 1)),
                         little(7, 2, 1, copies=2), TURN, where(1), where(7))
        self.assertEqual(told, [placed(7, 2), on(0), on(0, 1)])


class AfterwardsTest(unittest.TestCase):
    def test_one_that_was_put_out_may_find_another_place(self):
        told = last_told(4, machine(0, (4, 0, 0, 0), labels=1), *running(little(1, 4)), machine(1, (4, 0, 0, 0)),
                         little(7, 4, 1, needs=1), TURN, TURN, where(1), where(7))
        self.assertEqual(told, [placed(7, 1), placed(1), on(1), on(0)])

    def test_one_that_was_put_out_may_put_out_others(self):
        machines = [machine(0, (4, 0, 0, 0), labels=1), machine(1, (4, 0, 0, 0), labels=2)]
        told = last_told(6, *machines, *running(little(1, 4, 1), little(2, 4, 0)), little(7, 4, 2, needs=1), TURN, TURN,
                         TURN, where(1), where(2), where(7))
        self.assertEqual(told, [placed(7, 1), placed(1, 2), NONE_PLACED, on(1), WAITS, on(0)])

    def test_an_ended_job_is_put_out_no_more(self):
        told = last_told(3, *yard(4), *running(little(1, 4)), end(1), little(7, 4, 1), TURN, TURN)
        self.assertEqual(told, [alone(1), placed(7), NONE_PLACED])

    def test_a_job_that_waits_is_not_put_out(self):
        told = last_told(2, *yard(4), *running(little(1, 4)), little(2, 4), little(7, 4, 1), TURN, TURN)
        self.assertEqual(told, [placed(7, 1), NONE_PLACED])

    def test_who_is_not_put_out_stays_where_it_is(self):
        told = last_told(3, *yard(3, 3), *running(little(1, 3), little(2, 2), little(3, 1)), end(1), little(7, 3, 1),
                         TURN, where(2), where(3))
        self.assertEqual(told, [placed(7), on(1), on(1)])


if __name__ == "__main__":
    unittest.main()
