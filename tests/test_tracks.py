import random
import unittest

from retroact.tracks import along, cut_to, domain_of, one_domain, one_track, pairs, put, reach, signs, truth_of, whole


def numbers(domain):
    return [u for least, greatest in domain for u in range(least, greatest + 1)]


def told(track):
    """Return a dict from the numbers of a track to what it tells for them."""
    return {u: slope * u + start for least, greatest, slope, start in track for u in range(least, greatest + 1)}


class TrackTestCase(unittest.TestCase):
    def setUp(self):
        self.dice = random.Random(5)

    def domain(self, least, greatest):
        """Return a random domain between two numbers."""
        found = []
        for u in range(least, greatest + 1):
            if self.dice.random() < 0.75:
                reach(found, u, u)
        return found

    def track(self, domain):
        """Return a random track on a domain."""
        found = []
        for least, greatest in domain:
            while least <= greatest:
                last = min(greatest, least + self.dice.randrange(5))
                put(found, least, last, self.dice.randint(-2, 2), self.dice.randint(-6, 6))
                least = last + 1
        return found

    def assert_track(self, track):
        for least, greatest, slope, _ in track:
            self.assertTrue(least < greatest or least == greatest and slope == 0)
        for first, second in zip(track, track[1:]):
            self.assertLess(first[1], second[0])


class MakingTests(TrackTestCase):
    def test_put(self):
        track = []
        for segment, after in (((0, 3, 1, 0), [(0, 3, 1, 0)]), ((4, 6, 1, 0), [(0, 6, 1, 0)]), ((7, 9, 1, 1), [(0, 6, 1, 0), (7, 9, 1, 1)]),
                               ((11, 12, 1, 1), [(0, 6, 1, 0), (7, 9, 1, 1), (11, 12, 1, 1)])):
            put(track, *segment)
            self.assertEqual(track, after)

    def test_a_single_number_is_part_of_any_form_with_its_value(self):
        track = []
        put(track, 0, 3, 1, 0)
        put(track, 4, 4, 0, 4)
        self.assertEqual(track, [(0, 4, 1, 0)])
        put(track, 5, 5, 7, -35)
        self.assertEqual(track, [(0, 4, 1, 0), (5, 5, 0, 0)])
        put(track, 6, 9, 2, -10)
        self.assertEqual(track, [(0, 4, 1, 0), (5, 9, 2, -10)])
        # Two single numbers are one only if they are equal.
        put(track, 10, 10, 0, 3)
        put(track, 11, 11, 0, 4)
        put(track, 12, 12, 0, 4)
        self.assertEqual(track[2:], [(10, 10, 0, 3), (11, 12, 0, 4)])

    def test_along(self):
        self.assertEqual(along([(0, 3), (5, 5)], 2, 1), [(0, 3, 2, 1), (5, 5, 0, 11)])
        self.assertEqual(along([], 2, 1), [])

    def test_whole(self):
        for _ in range(200):
            track = self.track(self.domain(-8, 8))
            rows = [row for least, greatest, slope, start in track
                    for row in ([(least, greatest, slope, start)] if self.dice.random() < 0.5 else [(u, u, slope, start) for u in range(least, greatest + 1)])]
            self.dice.shuffle(rows)
            found = whole(rows)
            self.assert_track(found)
            self.assertEqual(told(found), told(track))

    def test_domains(self):
        self.assertEqual(domain_of([(0, 3, 1, 0), (4, 6, 2, 0), (8, 9, 0, 0)]), [(0, 6), (8, 9)])
        self.assertEqual(one_domain([[(4, 5), (9, 9)], [(0, 1), (6, 6)], []]), [(0, 1), (4, 6), (9, 9)])
        self.assertEqual(one_domain([]), [])


class CuttingTests(TrackTestCase):
    def test_cut_to(self):
        for _ in range(500):
            track = self.track(self.domain(-12, 12))
            inner = [u for u in told(track) if self.dice.random() < self.dice.choice((0.3, 0.9))]
            domain = []
            for u in inner:
                reach(domain, u, u)
            before = list(track)
            found = cut_to(track, domain)
            self.assertEqual(track, before)
            self.assert_track(found)
            self.assertEqual(told(found), {u: told(track)[u] for u in inner})

    def test_pairs(self):
        for _ in range(500):
            first = self.track(self.domain(-12, 12))
            inner = [u for u in told(first) if self.dice.random() < 0.8]
            domain = []
            for u in inner:
                reach(domain, u, u)
            second = self.track(domain)
            rows = pairs(first, second)
            self.assertEqual([u for row in rows for u in range(row[0], row[1] + 1)], inner)
            for least, greatest, slope, start, steepness, beginning in rows:
                for u in range(least, greatest + 1):
                    self.assertEqual((slope * u + start, steepness * u + beginning), (told(first)[u], told(second)[u]))

    def test_one_track(self):
        for _ in range(300):
            domain = self.domain(-12, 12)
            parts = [[], [], []]
            for u in numbers(domain):
                reach(self.dice.choice(parts), u, u)
            parts = [part for part in parts if part]
            if parts:
                tracks = [self.track([(-12, 12)]) for _ in parts]
                found = one_track(tracks, parts)
                for track, part in zip(tracks, parts):
                    for u in numbers(part):
                        self.assertEqual(told(found)[u], told(track)[u])
        self.assertEqual(one_track([[(0, 9, 1, 0)], [(0, 9, 1, 0)]], [[(0, 3)], [(5, 9)]]), [(0, 9, 1, 0)])


class SignTests(TrackTestCase):
    def test_signs(self):
        for slope in range(-4, 5):
            for start in range(-9, 10):
                for least, greatest in ((-3, 3), (0, 0), (1, 4), (-9, -1), (-1000000000, 1000000000)):
                    rows = signs(least, greatest, slope, start)
                    self.assertEqual((rows[0][0], rows[-1][1]), (least, greatest))
                    for first, last, sign in rows:
                        self.assertLessEqual(first, last)
                        for u in (first, (first + last) // 2, last):
                            worth = slope * u + start
                            self.assertEqual(sign, (worth > 0) - (worth < 0))
                    for first, second in zip(rows, rows[1:]):
                        self.assertEqual(first[1] + 1, second[0])

    def test_truth_of(self):
        for _ in range(300):
            track = self.track(self.domain(-12, 12))
            yes, no = truth_of(track)
            self.assertEqual(numbers(yes), [u for u, worth in told(track).items() if worth])
            self.assertEqual(numbers(no), [u for u, worth in told(track).items() if not worth])
            for domain in (yes, no):
                self.assertTrue(all([first[1] + 1 < second[0] for first, second in zip(domain, domain[1:])]))


if __name__ == "__main__":
    unittest.main()
