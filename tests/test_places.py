import unittest

from helper import (MOST_ROOM, NONE_PLACED, TURN, WAITS, alone, down, end, free, job, last_told, machine, on, placed,
                    room, told_by, where, with_one)

NOTHING = (0, 0, 0, 0)


def places_of(machines, wanted):
    """Where the copies of this one job are after one turn on these machines; None where it isn't placed."""
    turn, found = last_told(2, *machines, wanted, TURN, where(wanted[1]))
    if turn == NONE_PLACED and found == WAITS:
        return None
    if turn != placed(wanted[1]) or found[0] != 2 or found[1] != len(found) - 2:
        raise AssertionError(f"neither placed nor refused: {turn} {found}")
    return found[2:]


class MachineByMachineTest(unittest.TestCase):
    def test_no_machines(self):
        self.assertEqual(places_of([], job(0)), None)

    def test_each_has_as_many_as_it_can(self):
        machines = [machine(0, (2, 9, 9, 9)), machine(1, (9, 3, 9, 9)), machine(2, (9, 9, 9, 9))]
        self.assertEqual(places_of(machines, job(0, copies=6)), [0, 0, 1, 1, 1, 2])
        self.assertEqual(places_of(machines, job(0, copies=4)), [0, 0, 1, 1])
        self.assertEqual(places_of(machines, job(0, copies=1)), [0])

    def test_the_order_is_that_of_the_numbers_not_that_in_which_they_came(self):
        machines = [machine(i, (1, 1, 1, 1)) for i in (63, 5, 40, 0)]
        self.assertEqual(places_of(machines, job(0, copies=4)), [0, 5, 40, 63])
        self.assertEqual(places_of(machines, job(0, copies=2)), [0, 5])

    def test_not_all_copies_fit(self):
        machines = [machine(0), machine(1)]
        self.assertEqual(places_of(machines, job(0, copies=8)), [0] * 4 + [1] * 4)
        self.assertEqual(places_of(machines, job(0, copies=9)), None)

    def test_a_machine_that_is_gone_has_none(self):
        told = last_told(2, machine(0), machine(1), machine(2), down(1), job(0, copies=8), TURN, where(0))
        self.assertEqual(told, [placed(0), on(0, 0, 0, 0, 2, 2, 2, 2)])

    def test_a_machine_that_came_back_is_as_it_is_now(self):
        told = last_told(2, machine(0), down(0), machine(0, (1, 1, 1, 1)), machine(1), job(0, copies=2), TURN, where(0))
        self.assertEqual(told, [placed(0), on(0, 1)])

    def test_what_others_have_is_not_free(self):
        told = last_told(4, machine(0), machine(1), job(0, copies=3), job(1, copies=3), TURN, where(0), TURN, where(1))
        self.assertEqual(told, [placed(0), on(0, 0, 0), placed(1), on(0, 1, 1)])

    def test_what_is_free_is_had_by_kind(self):
        told = last_told(4, machine(0), job(0, (4, 0, 1, 0)), job(1, (0, 4, 3, 0)), job(2, (0, 0, 0, 1), copies=5),
                         job(3, (0, 0, 0, 4)), TURN, TURN, TURN, free(0))
        self.assertEqual(told, [placed(0), placed(1), placed(3), room(0, 0, 0, 0)])

    def test_all_64_machines(self):
        machines = [machine(i, (1, 1, 1, 1) if i >= 48 else NOTHING) for i in range(64)]
        self.assertEqual(places_of(machines, job(0, copies=16)), list(range(48, 64)))


class WantsTest(unittest.TestCase):
    def test_each_kind_sets_a_limit(self):
        for kind in range(4):
            one = [machine(0, with_one((9, 9, 9, 9), kind, 5))]
            self.assertEqual(places_of(one, job(0, (2, 2, 2, 2), copies=2)), [0, 0], kind)
            self.assertEqual(places_of(one, job(0, (2, 2, 2, 2), copies=3)), None, kind)
            self.assertEqual(places_of(one, job(0, with_one(NOTHING, kind, 5))), [0], kind)
            self.assertEqual(places_of(one, job(0, with_one(NOTHING, kind, 6))), None, kind)

    def test_a_want_of_0_sets_no_limit(self):
        for kind in range(4):
            one = [machine(0, with_one(NOTHING, kind, 16))]
            self.assertEqual(places_of(one, job(0, with_one(NOTHING, kind, 1), copies=16)), [0] * 16, kind)
            self.assertEqual(places_of(one, job(0, with_one((1, 1, 1, 1), kind, 0))), None, kind)

    def test_a_want_of_0_where_nothing_is_left(self):
        told = last_told(3, machine(0), job(0, (4, 0, 0, 0)), job(1, (0, 4, 4, 4)), TURN, TURN, free(0))
        self.assertEqual(told, [placed(0), placed(1), room(0, 0, 0, 0)])

    def test_equal_to_the_last_one(self):
        for want, copies in ((60, 1), (30, 2), (20, 3), (15, 4), (4, 15)):
            wanted = job(0, (want, 1, 0, want), copies=copies)
            self.assertEqual(places_of([machine(0, (60, 60, 60, 60))], wanted), [0] * copies, want)
            self.assertEqual(places_of([machine(0, (59, 60, 60, 60))], wanted), None, want)
            self.assertEqual(places_of([machine(0, (60, 60, 60, 59))], wanted), None, want)

    def test_equal_to_the_last_one_of_what_is_free(self):
        told = last_told(4, machine(0, (7, 7, 7, 7)), job(0, (3, 4, 5, 6)), TURN, job(1, (4, 3, 2, 2)), TURN,
                         job(2, (4, 3, 2, 1)), TURN, free(0))
        self.assertEqual(told, [NONE_PLACED, alone(3), placed(2), room(0, 0, 0, 0)])

    def test_the_greatest_room(self):
        most = [machine(0, (MOST_ROOM,) * 4)]
        self.assertEqual(places_of(most, job(0, (MOST_ROOM,) * 4)), [0])
        self.assertEqual(places_of(most, job(0, (MOST_ROOM,) * 4, copies=2)), None)
        self.assertEqual(places_of(most, job(0, (1, 0, 0, 0), copies=16)), [0] * 16)
        self.assertEqual(places_of(most, job(0, (MOST_ROOM // 16,) * 4, copies=16)), [0] * 16)
        self.assertEqual(places_of(most, job(0, (MOST_ROOM // 16 + 1, 0, 0, 0), copies=16)), None)


class LabelsTest(unittest.TestCase):
    def test_all_labels_are_needed(self):
        for labels in range(8):
            fits = labels in (5, 7)
            self.assertEqual(places_of([machine(0, labels=labels)], job(0, needs=5)), [0] if fits else None, labels)

    def test_none_of_never_is_there(self):
        for labels in range(8):
            fits = labels in (0, 2)
            self.assertEqual(places_of([machine(0, labels=labels)], job(0, never=5)), [0] if fits else None, labels)

    def test_all_needed_and_one_forbidden(self):
        every = [machine(0, labels=65535)]
        self.assertEqual(places_of(every, job(0, needs=65535)), [0])
        self.assertEqual(places_of(every, job(0, needs=32767, never=32768)), None)
        self.assertEqual(places_of([machine(0, labels=32767)], job(0, needs=32767, never=32768)), [0])
        self.assertEqual(places_of([machine(0, labels=65534)], job(0, needs=65535)), None)

    def test_one_that_is_needed_and_forbidden(self):
        machines = [machine(i, labels=i) for i in range(4)]
        self.assertEqual(places_of(machines, job(0, needs=1, never=1)), None)

    def test_no_labels_are_asked(self):
        self.assertEqual(places_of([machine(0, labels=65535)], job(0)), [0])
        self.assertEqual(places_of([machine(0, labels=0)], job(0)), [0])

    def test_machines_that_are_wrong_are_passed_over(self):
        machines = [machine(i, (1, 1, 1, 1), labels=i) for i in range(8)]
        self.assertEqual(places_of(machines, job(0, needs=1, never=2, copies=2)), [1, 5])
        self.assertEqual(places_of(machines, job(0, needs=1, never=2, copies=3)), None)


class ApartTest(unittest.TestCase):
    def test_no_machine_has_two(self):
        machines = [machine(0), machine(1), machine(2)]
        self.assertEqual(places_of(machines, job(0, copies=3)), [0, 0, 0])
        self.assertEqual(places_of(machines, job(0, copies=3, apart=1)), [0, 1, 2])
        self.assertEqual(places_of(machines, job(0, copies=2, apart=1)), [0, 1])
        self.assertEqual(places_of(machines, job(0, copies=4, apart=1)), None)

    def test_one_machine(self):
        self.assertEqual(places_of([machine(0)], job(0, copies=1, apart=1)), [0])
        self.assertEqual(places_of([machine(0)], job(0, copies=2, apart=1)), None)

    def test_a_machine_without_room_has_none(self):
        machines = [machine(0), machine(1, NOTHING), machine(2)]
        self.assertEqual(places_of(machines, job(0, copies=2, apart=1)), [0, 2])

    def test_copies_of_other_jobs_may_be_beside(self):
        told = last_told(4, machine(0), machine(1), job(0, copies=2, apart=1), job(1, copies=2, apart=1), TURN, TURN,
                         where(0), where(1))
        self.assertEqual(told, [placed(0), placed(1), on(0, 1), on(0, 1)])


class SpreadTest(unittest.TestCase):
    def test_no_zone_has_more(self):
        machines = [machine(0, zone=3), machine(1, zone=3), machine(2, zone=5)]
        self.assertEqual(places_of(machines, job(0, copies=4, spread=2)), [0, 0, 2, 2])
        self.assertEqual(places_of(machines, job(0, copies=2, spread=1)), [0, 2])
        self.assertEqual(places_of(machines, job(0, copies=3, spread=1)), None)
        self.assertEqual(places_of(machines, job(0, copies=5, spread=2)), None)

    def test_what_the_zone_still_may_have(self):
        machines = [machine(0, (2, 2, 2, 2), zone=1), machine(1, zone=0), machine(2, zone=1), machine(3, zone=1)]
        self.assertEqual(places_of(machines, job(0, copies=6, spread=3)), [0, 0, 1, 1, 1, 2])
        self.assertEqual(places_of(machines, job(0, copies=10, spread=6)), [0, 0, 1, 1, 1, 1, 2, 2, 2, 2])

    def test_a_spread_of_0_sets_no_limit(self):
        self.assertEqual(places_of([machine(0, (16,) * 4, zone=7)], job(0, copies=16, spread=0)), [0] * 16)
        machines = [machine(i, zone=i) for i in range(3)]
        self.assertEqual(places_of(machines, job(0, copies=6, spread=0)), [0, 0, 0, 0, 1, 1])

    def test_the_last_machine_has_only_what_is_left(self):
        machines = [machine(i, zone=i) for i in range(3)]
        self.assertEqual(places_of(machines, job(0, copies=5, spread=3)), [0, 0, 0, 1, 1])

    def test_a_spread_of_more_than_there_are(self):
        self.assertEqual(places_of([machine(0)], job(0, copies=3, spread=16)), [0, 0, 0])
        self.assertEqual(places_of([machine(0)], job(0, copies=3, spread=4)), [0, 0, 0])
        self.assertEqual(places_of([machine(0)], job(0, copies=3, spread=3)), [0, 0, 0])
        self.assertEqual(places_of([machine(0)], job(0, copies=3, spread=2)), None)

    def test_a_spread_of_1_with_eight_zones(self):
        machines = [machine(i, zone=i // 2) for i in range(16)]
        self.assertEqual(places_of(machines, job(0, copies=8, spread=1)), list(range(0, 16, 2)))
        self.assertEqual(places_of(machines, job(0, copies=9, spread=1)), None)

    def test_a_gang_of_16_in_8_zones_with_spread_2(self):
        gang = job(0, copies=16, spread=2)
        self.assertEqual(places_of([machine(i, zone=i) for i in range(8)], gang), [i for i in range(8) for _ in "ab"])
        singles = [machine(i, (1, 1, 1, 1), zone=i % 8) for i in range(16)]
        self.assertEqual(places_of(singles, gang), list(range(16)))
        self.assertEqual(places_of(singles[:-1], gang), None)
        self.assertEqual(places_of([machine(i, (16,) * 4, zone=i % 7) for i in range(64)], gang), None)
        self.assertEqual(places_of([machine(i, zone=i // 8) for i in range(64)], job(0, copies=16, apart=1, spread=2)),
                         [i for i in range(64) if i % 8 < 2])

    def test_copies_of_other_jobs_are_not_counted(self):
        told = last_told(4, machine(0), machine(1), job(0, spread=1), job(1, spread=1), TURN, TURN, where(0), where(1))
        self.assertEqual(told, [placed(0), placed(1), on(0), on(0)])

    def test_apart_and_spread(self):
        machines = [machine(i, zone=i // 3) for i in range(6)]
        self.assertEqual(places_of(machines, job(0, copies=4, apart=1, spread=2)), [0, 1, 3, 4])
        self.assertEqual(places_of(machines, job(0, copies=5, apart=1, spread=2)), None)
        self.assertEqual(places_of(machines, job(0, copies=6, apart=1, spread=3)), [0, 1, 2, 3, 4, 5])


class AllOrNoneTest(unittest.TestCase):
    def test_none_runs_where_not_all_can(self):
        told = last_told(4, machine(0), machine(1), job(0, copies=9), TURN, where(0), free(0), free(1))
        self.assertEqual(told, [NONE_PLACED, WAITS, room(4, 4, 4, 4), room(4, 4, 4, 4)])

    def test_it_is_placed_once_there_is_room(self):
        told = last_told(5, machine(0), job(0, copies=6), job(1, copies=3), TURN, TURN, machine(3), end(1), TURN,
                         where(0))
        self.assertEqual(told, [NONE_PLACED, alone(2), alone(1), placed(0), on(0, 0, 0, 0, 3, 3)])

    def test_a_refusal_of_the_machine_leaves_no_room(self):
        told = told_by(machine(0, none=1), machine(64), job(0), TURN)
        self.assertEqual(told, [alone(-22), alone(-2), alone(1), NONE_PLACED])


if __name__ == "__main__":
    unittest.main()
