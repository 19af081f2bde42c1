import unittest

from helper import MOST_BELOW_2_32, MOST_ROOM, MOST_WHOLE, down, job, machine, numbers, with_one
from jobyard.records import Machine
from jobyard.yard import Yard


class MachineTest(unittest.TestCase):
    def test_how_many_machines_there_are(self):
        self.assertEqual(numbers(machine(5), machine(0), machine(62)), [1, 2, 3])

    def test_all_64_machines(self):
        told = numbers(*[machine(i) for i in range(64)])
        self.assertEqual(told, list(range(1, 65)))

    def test_jobs_are_not_counted(self):
        self.assertEqual(numbers(job(1), job(2), machine(1), machine(2)), [1, 2, 1, 2])

    def test_number_63_is_the_last(self):
        self.assertEqual(numbers(machine(63)), [1])
        for i in (64, 65, 127, 128, MOST_BELOW_2_32):
            self.assertEqual(numbers(machine(i)), [-2], i)

    def test_a_machine_that_is_there(self):
        for i in (0, 1, 63):
            self.assertEqual(numbers(machine(i), machine(i)), [1, -17], i)

    def test_each_number_in_has(self):
        for place in range(4):
            for number, answer in ((0, 1), (MOST_ROOM, 1), (MOST_ROOM + 1, -22), (MOST_BELOW_2_32, -22)):
                for others in ((0, 0, 0, 0), (MOST_ROOM,) * 4):
                    has = with_one(others, place, number)
                    self.assertEqual(numbers(machine(7, has=has)), [answer], has)

    def test_zone(self):
        for zone, answer in ((0, 1), (1, 1), (7, 1), (8, -22), (MOST_WHOLE, -22)):
            self.assertEqual(numbers(machine(7, zone=zone)), [answer], zone)

    def test_none(self):
        for none, answer in ((0, 1), (1, -22), (2, -22), (MOST_WHOLE, -22)):
            self.assertEqual(numbers(machine(7, none=none)), [answer], none)

    def test_every_label_is_allowed(self):
        for labels in (0, 1, 32768, 65535):
            self.assertEqual(numbers(machine(7, labels=labels)), [1], labels)

    def test_all_that_is_allowed_at_once(self):
        self.assertEqual(numbers(machine(63, (MOST_ROOM,) * 4, 65535, 7, 0)), [1])

    def test_the_greatest_numbers_that_can_be_handed_in(self):
        most = [1, 63] + [MOST_BELOW_2_32] * 4 + [65535, MOST_WHOLE, MOST_WHOLE]
        self.assertEqual(numbers(most), [-22])
        most[1] = MOST_BELOW_2_32
        self.assertEqual(numbers(most), [-2])

    def test_the_refusal_that_is_named_first(self):
        self.assertEqual(numbers(machine(64, none=1)), [-2])
        self.assertEqual(numbers(machine(64, zone=8)), [-2])
        self.assertEqual(numbers(machine(64, has=(0, 0, 0, MOST_ROOM + 1))), [-2])
        self.assertEqual(numbers(machine(2), machine(2, none=1)), [1, -17])
        self.assertEqual(numbers(machine(2), machine(2, zone=8)), [1, -17])
        self.assertEqual(numbers(machine(2), machine(2, has=(MOST_ROOM + 1, 0, 0, 0))), [1, -17])

    def test_refusals_change_nothing(self):
        told = numbers(machine(1), machine(64), machine(1), machine(2, none=1), machine(2), down(64))
        self.assertEqual(told, [1, -2, -17, -22, 2, -2])
        self.assertEqual(numbers(machine(2, zone=8), down(2)), [-22, -2])

    def test_a_machine_that_is_there_stays_as_it_was(self):
        yard = Yard()
        yard.jo_machine(2, Machine([1, 2, 3, 4, 5, 6, 0]))
        self.assertEqual(yard.jo_machine(2, Machine([9, 9, 9, 9, 9, 1, 0])), -17)
        there = yard.machines[2]
        self.assertEqual((there.has, there.labels, there.zone), ([1, 2, 3, 4], 5, 6))


if __name__ == "__main__":
    unittest.main()
