"""Points 6 and 12: the number of rounds, to whom a place tells, and the way from one place to another."""

import unittest

from barrierrow import spread
from barrierrow.spread import partner, rounds, way

POWERS = [2 ** r for r in range(10)]
AROUND_POWERS = sorted({many for power in POWERS for many in (power - 1, power, power + 1) if many >= 1})
SOME = sorted(set(AROUND_POWERS) | {1, 2, 3, 12, 100, 999, 1000})


def walked(one, turns, many):
    place = one
    for turn in turns:
        place = partner(place, turn, many)
    return place


class Rounds(unittest.TestCase):
    def test_the_smallest(self):
        self.assertEqual([rounds(many) for many in (1, 2, 3)], [0, 1, 2])

    def test_written_out(self):
        told = {4: 2, 5: 3, 7: 3, 8: 3, 9: 4, 12: 4, 15: 4, 16: 4, 17: 5, 31: 5, 32: 5, 33: 6, 63: 6, 64: 6, 65: 7}
        self.assertEqual({many: rounds(many) for many in told}, told)

    def test_at_each_power_of_two_and_beside_it(self):
        for r, power in enumerate(POWERS):
            with self.subTest(power=power):
                self.assertEqual(rounds(power), r)
                self.assertEqual(rounds(power + 1), r + 1)
                if power >= 4:
                    self.assertEqual(rounds(power - 1), r)

    def test_at_the_greatest_and_beyond(self):
        self.assertEqual([rounds(many) for many in (511, 512, 513, 1000, 1024, 1025)], [9, 9, 10, 10, 10, 11])

    def test_is_the_least_such_number_everywhere(self):
        for many in range(1, 1001):
            r = rounds(many)
            self.assertIs(int, r.__class__)
            self.assertGreaterEqual(2 ** r, many)
            self.assertTrue(r == 0 or 2 ** (r - 1) < many, many)


class Partner(unittest.TestCase):
    def test_written_out_for_five_places(self):
        told = [[partner(place, turn, 5) for place in range(5)] for turn in range(3)]
        self.assertEqual(told, [[1, 2, 3, 4, 0], [2, 3, 4, 0, 1], [4, 0, 1, 2, 3]])

    def test_two_places_tell_each_other(self):
        self.assertEqual([partner(0, 0, 2), partner(1, 0, 2)], [1, 0])

    def test_around_past_the_last_place(self):
        self.assertEqual(partner(999, 0, 1000), 0)
        self.assertEqual(partner(999, 9, 1000), 511)
        self.assertEqual(partner(488, 9, 1000), 0)
        self.assertEqual(partner(487, 9, 1000), 999)
        self.assertEqual(partner(2, 1, 3), 1)

    def test_in_every_round_of_many_numbers_of_places(self):
        for many in SOME:
            for turn in range(rounds(many)):
                told = [partner(place, turn, many) for place in range(many)]
                self.assertEqual(told, [(place + 2 ** turn) % many for place in range(many)])
                self.assertEqual(sorted(told), list(range(many)))


class Way(unittest.TestCase):
    def test_to_itself(self):
        for many in SOME:
            for place in {0, many // 2, many - 1}:
                self.assertEqual(way(place, place, many), [])

    def test_to_the_next_one(self):
        for many in SOME:
            if many > 1:
                for place in {0, many // 2, many - 1}:
                    self.assertEqual(way(place, (place + 1) % many, many), [0])

    def test_to_the_one_before(self):
        self.assertEqual(way(0, 1, 2), [0])
        self.assertEqual(way(1, 0, 3), [1])
        self.assertEqual(way(0, 7, 8), [0, 1, 2])
        self.assertEqual(way(5, 4, 8), [0, 1, 2])
        self.assertEqual(way(0, 8, 9), [3])
        self.assertEqual(way(0, 11, 12), [0, 1, 3])
        self.assertEqual(way(1, 0, 1000), [0, 1, 2, 5, 6, 7, 8, 9])

    def test_around_past_the_last_place(self):
        self.assertEqual(way(4, 1, 5), [1])
        self.assertEqual(way(998, 3, 1000), [0, 2])

    def check_way(self, one, other, many):
        turns = way(one, other, many)
        self.assertIs(list, turns.__class__)
        self.assertEqual(turns, sorted(set(turns)))
        self.assertTrue(all(turn in range(rounds(many)) for turn in turns))
        self.assertEqual(sum(2 ** turn for turn in turns), (other - one) % many)
        self.assertEqual(walked(one, turns, many), other)

    def test_every_pair_of_up_to_33_places(self):
        for many in range(1, 34):
            for one in range(many):
                for other in range(many):
                    self.check_way(one, other, many)

    def test_many_pairs_of_more_places(self):
        for many in SOME:
            for one in sorted({0, 1, many // 3, many // 2, many - 1}):
                for other in range(0, many, 1 + many // 60):
                    self.check_way(one % many, other, many)
                self.check_way(one % many, many - 1, many)

    def test_what_is_given_is_the_askers_own(self):
        way(0, 3, 5).append(7)
        self.assertEqual(way(0, 3, 5), [0, 1])


class Interface(unittest.TestCase):
    def test_each_is_defined_in_its_file(self):
        for name in ["rounds", "partner", "way"]:
            self.assertEqual(getattr(spread, name).__module__, "barrierrow.spread")

    def test_arguments_by_name(self):
        self.assertEqual(rounds(many=5), 3)
        self.assertEqual(partner(place=4, turn=1, many=5), 1)
        self.assertEqual(way(one=4, other=2, many=5), [0, 1])


if __name__ == "__main__":
    unittest.main()
