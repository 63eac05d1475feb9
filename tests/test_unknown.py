import random
import unittest

from retroact.unknown import bounds, part_at_least, parts_range, united, value_at

FAR = 10 ** 30


class FormTests(unittest.TestCase):
    def test_value_at(self):
        self.assertEqual([value_at((2, -7), u) for u in (5, 0, -1)], [3, -7, -9])
        self.assertEqual([value_at((0, 4), u) for u in (5, -5)], [4, 4])
        self.assertEqual(value_at((-3, 0), FAR), -3 * FAR)

    def test_bounds(self):
        self.assertEqual(bounds((-3, 1), (0, 4)), (-11, 1))
        self.assertEqual(bounds((3, 1), (-2, 4)), (-5, 13))
        self.assertEqual(bounds((0, 1), (-2, 4)), (1, 1))
        self.assertEqual(bounds((-7, 1), (5, 5)), (-34, -34))
        self.assertEqual(bounds((FAR, -1), (-FAR, FAR)), (-FAR * FAR - 1, FAR * FAR - 1))

    def test_part_at_least(self):
        self.assertEqual(part_at_least((2, -7), (0, 9)), (4, 9))
        self.assertEqual(part_at_least((2, -8), (0, 9)), (4, 9))
        self.assertEqual(part_at_least((-2, 7), (0, 9)), (0, 3))
        self.assertEqual(part_at_least((-2, 8), (0, 9)), (0, 4))
        self.assertEqual(part_at_least((1, 5), (-9, -5)), (-5, -5))
        self.assertEqual(part_at_least((-1, -5), (-9, 9)), (-9, -5))

    def test_part_at_least_for_flat_forms(self):
        self.assertEqual(part_at_least((0, 0), (0, 9)), (0, 9))
        self.assertEqual(part_at_least((0, 3), (-4, -4)), (-4, -4))
        self.assertIsNone(part_at_least((0, -1), (0, 9)))

    def test_part_at_least_that_is_nothing_or_everything(self):
        self.assertIsNone(part_at_least((1, -10), (0, 9)))
        self.assertIsNone(part_at_least((-1, -1), (0, 9)))
        self.assertIsNone(part_at_least((3, -7), (2, 2)))
        self.assertEqual(part_at_least((3, -6), (2, 2)), (2, 2))
        self.assertEqual(part_at_least((1, 0), (0, 9)), (0, 9))
        self.assertEqual(part_at_least((-1, 9), (0, 9)), (0, 9))

    def test_part_at_least_of_large_numbers(self):
        self.assertEqual(part_at_least((3, -FAR), (-FAR, FAR)), (-(-FAR // 3), FAR))
        self.assertEqual(part_at_least((-3, FAR), (-FAR, FAR)), (-FAR, FAR // 3))

    def test_against_each_number(self):
        dice = random.Random(3)
        for _ in range(3000):
            form = (dice.randint(-6, 6), dice.randint(-40, 40))
            least = dice.randint(-15, 15)
            interval = (least, least + dice.choice((0, 1, dice.randint(0, 20))))
            numbers = range(interval[0], interval[1] + 1)
            values = [form[0] * u + form[1] for u in numbers]
            self.assertEqual([value_at(form, u) for u in numbers], values)
            self.assertEqual(bounds(form, interval), (min(values), max(values)))
            part = [u for u, value in zip(numbers, values) if value >= 0]
            self.assertEqual(part_at_least(form, interval), (part[0], part[-1]) if part else None)


class PartsTests(unittest.TestCase):
    def test_that_part(self):
        self.assertTrue(parts_range([(0, 3), (4, 4), (5, 9)], 0, 9))
        self.assertTrue(parts_range([(0, 9)], 0, 9))
        self.assertTrue(parts_range([(-5, -5)], -5, -5))
        self.assertTrue(parts_range([(-FAR, 0), (1, FAR)], -FAR, FAR))

    def test_gaps_and_overlaps(self):
        self.assertFalse(parts_range([(0, 3), (5, 9)], 0, 9))
        self.assertFalse(parts_range([(0, 3), (3, 9)], 0, 9))
        self.assertFalse(parts_range([(0, 9), (0, 9)], 0, 9))
        self.assertFalse(parts_range([(0, 9), (4, 5)], 0, 9))

    def test_ends(self):
        self.assertFalse(parts_range([(0, 3), (4, 8)], 0, 9))
        self.assertFalse(parts_range([(1, 3), (4, 9)], 0, 9))
        self.assertFalse(parts_range([(-1, 3), (4, 9)], 0, 9))
        self.assertFalse(parts_range([(0, 3), (4, 10)], 0, 9))
        self.assertFalse(parts_range([(0, 3), (4, 9), (10, 12)], 0, 9))
        self.assertFalse(parts_range([(-3, -1), (0, 9)], 0, 9))

    def test_order(self):
        self.assertFalse(parts_range([(4, 9), (0, 3)], 0, 9))
        self.assertFalse(parts_range([(0, 3), (5, 9), (4, 4)], 0, 9))

    def test_what_is_no_interval(self):
        self.assertFalse(parts_range([(0, -1), (0, 9)], 0, 9))
        self.assertFalse(parts_range([(0, 9), (10, 9)], 0, 9))
        self.assertFalse(parts_range([(0, 5), (6, 3), (4, 9)], 0, 9))

    def test_the_empty_list(self):
        self.assertFalse(parts_range([], 0, 9))
        self.assertFalse(parts_range([], 4, 4))
        # A range without numbers has nothing to part.
        self.assertTrue(parts_range([], 5, 4))
        self.assertTrue(parts_range([], 5, -4))
        self.assertFalse(parts_range([(5, 5)], 5, 4))

    def test_against_each_number(self):
        dice = random.Random(7)
        parted = 0
        for _ in range(4000):
            at, intervals = dice.randint(-1, 1), []
            for _ in range(dice.randint(0, 4)):
                last = at + dice.randint(0, 3)
                intervals.append((at, last))
                at = last + dice.choice((1, 1, 1, 1, 0, 2))
            least, greatest = dice.randint(-1, 1), at - dice.choice((1, 1, 2, 0))
            numbers = [u for first, last in intervals for u in range(first, last + 1)]
            wanted = numbers == list(range(least, greatest + 1))
            parted += wanted and bool(intervals)
            self.assertEqual(parts_range(intervals, least, greatest), wanted)
        self.assertGreater(parted, 200)


class UnitedTests(unittest.TestCase):
    def test_intervals_that_touch(self):
        self.assertEqual(united([(0, 3), (4, 4), (6, 9)]), [(0, 4), (6, 9)])
        self.assertEqual(united([(-2, -1), (0, 0), (1, 5), (6, 6)]), [(-2, 6)])

    def test_intervals_that_do_not(self):
        self.assertEqual(united([(0, 3), (5, 5), (7, 9)]), [(0, 3), (5, 5), (7, 9)])
        self.assertEqual(united([(1, 1)]), [(1, 1)])
        self.assertEqual(united([]), [])

    def test_the_list_stays_as_it_is(self):
        intervals = [(0, 3), (4, 4)]
        united(intervals).append((9, 9))
        self.assertEqual(intervals, [(0, 3), (4, 4)])
        self.assertIsNot(united([(1, 1)]), united([(1, 1)]))

    def test_against_each_number(self):
        dice = random.Random(9)
        for _ in range(500):
            at, intervals = dice.randint(-9, 9), []
            for _ in range(dice.randint(0, 6)):
                intervals.append((at, at + dice.randint(0, 2)))
                at = intervals[-1][1] + dice.randint(1, 2)
            found = united(intervals)
            self.assertEqual([u for a, b in found for u in range(a, b + 1)], [u for a, b in intervals for u in range(a, b + 1)])
            self.assertTrue(all([first[1] + 1 < second[0] for first, second in zip(found, found[1:])]))


if __name__ == "__main__":
    unittest.main()
