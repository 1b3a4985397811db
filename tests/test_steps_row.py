"""Points 6 and 7: each step at a gate in rows, its word, and the boxes behind it."""

import unittest

from barrierrow.halls import ahead, begun, boxes, came, passed
from barrierrow.steps import idle, stepped

SIGNS = [1, 1, 0, 0] * 10
ROUNDS = {1: 0, 2: 1, 3: 2, 4: 2, 5: 3, 8: 3, 12: 4}


class Rows(unittest.TestCase):
    def check_step(self, hall, walker, word, store, gate=0):
        due = ahead(hall, walker)
        before = boxes(hall, gate)
        self.assertEqual(idle(hall, walker), word == "wait")
        behind, told = stepped(hall, walker)
        self.assertEqual(told, (walker, gate, word))
        self.assertEqual(boxes(behind, gate), store)
        self.assertEqual(due, (gate, "hear" if word == "wait" else word))
        if word != "tell":
            self.assertEqual(before, store)
        return behind

    def play(self, hall, script):
        """Each line of the script: the walker, the word by which its step is told, all boxes behind it."""
        for at, (walker, word, store) in enumerate(script):
            with self.subTest(at=at, walker=walker, word=word):
                behind = self.check_step(hall, walker, word, store)
            hall = behind
        return hall


class OneMember(Rows):
    def test_pass_straight_on_come(self):
        hall = begun([("row", [0])], [[0] * 40])
        for k in range(1, 41):
            hall = self.play(hall, [(0, "come", [[]]), (0, "pass", [[]])])
            self.assertEqual((passed(hall, 0, 0), came(hall, 0, 0)), (k, k))
        self.assertEqual(ahead(hall, 0), (None, "end"))


class TwoMembers(Rows):
    def test_every_word(self):
        hall = begun([("row", [1, 0])], [[0] * 5, [0] * 5])
        # Place 0 is walker 1; each member has a box for even times, then one for odd times.
        hall = self.play(hall, [
            (0, "come", [[0, 0], [0, 0]]),
            (0, "tell", [[0, 1], [0, 0]]), (0, "wait", [[0, 1], [0, 0]]), (0, "wait", [[0, 1], [0, 0]]),
            (1, "come", [[0, 1], [0, 0]]), (0, "wait", [[0, 1], [0, 0]]),
            (1, "tell", [[0, 1], [0, 1]]),
            (1, "hear", [[0, 1], [0, 1]]), (1, "pass", [[0, 1], [0, 1]]),
            # Walker 1 is there for the second time while walker 0 has not heard for the first one.
            (1, "come", [[0, 1], [0, 1]]), (1, "tell", [[0, 1], [1, 1]]), (1, "wait", [[0, 1], [1, 1]]),
            (0, "hear", [[0, 1], [1, 1]]), (0, "pass", [[0, 1], [1, 1]]),
            (0, "come", [[0, 1], [1, 1]]), (0, "tell", [[1, 1], [1, 1]]), (0, "hear", [[1, 1], [1, 1]]),
            (0, "pass", [[1, 1], [1, 1]]),
            (0, "come", [[1, 1], [1, 1]]), (0, "tell", [[1, 0], [1, 1]]), (0, "wait", [[1, 0], [1, 1]]),
            (1, "hear", [[1, 0], [1, 1]]), (1, "pass", [[1, 0], [1, 1]]),
            (1, "come", [[1, 0], [1, 1]]), (1, "tell", [[1, 0], [1, 0]]), (1, "hear", [[1, 0], [1, 0]]),
            (0, "hear", [[1, 0], [1, 0]]), (0, "pass", [[1, 0], [1, 0]]), (1, "pass", [[1, 0], [1, 0]]),
            (1, "come", [[1, 0], [1, 0]]), (1, "tell", [[1, 0], [0, 0]]), (1, "wait", [[1, 0], [0, 0]]),
            (0, "come", [[1, 0], [0, 0]]), (0, "tell", [[0, 0], [0, 0]]), (0, "hear", [[0, 0], [0, 0]]),
            (1, "hear", [[0, 0], [0, 0]]), (1, "pass", [[0, 0], [0, 0]]), (0, "pass", [[0, 0], [0, 0]]),
            (0, "come", [[0, 0], [0, 0]]), (0, "tell", [[0, 1], [0, 0]]), (0, "wait", [[0, 1], [0, 0]]),
        ])
        self.assertEqual([passed(hall, 0, 0), came(hall, 0, 0)], [4, 5])
        self.assertEqual([passed(hall, 1, 0), came(hall, 1, 0)], [4, 4])


class ThreeMembers(Rows):
    def test_every_word(self):
        hall = begun([("row", [0, 1, 2])], [[0, 0]] * 3)
        none = [0, 0, 0, 0]
        self.play(hall, [
            (0, "come", [none, none, none]),
            (0, "tell", [none, [0, 0, 1, 0], none]), (0, "wait", [none, [0, 0, 1, 0], none]),
            (1, "come", [none, [0, 0, 1, 0], none]),
            (1, "tell", [none, [0, 0, 1, 0], [0, 0, 1, 0]]), (1, "hear", [none, [0, 0, 1, 0], [0, 0, 1, 0]]),
            # In round 1 place 1 tells to place 0.
            (1, "tell", [[0, 0, 0, 1], [0, 0, 1, 0], [0, 0, 1, 0]]),
            (1, "wait", [[0, 0, 0, 1], [0, 0, 1, 0], [0, 0, 1, 0]]),
            (0, "wait", [[0, 0, 0, 1], [0, 0, 1, 0], [0, 0, 1, 0]]),
            (2, "come", [[0, 0, 0, 1], [0, 0, 1, 0], [0, 0, 1, 0]]),
            (2, "tell", [[0, 0, 1, 1], [0, 0, 1, 0], [0, 0, 1, 0]]),
            (2, "hear", [[0, 0, 1, 1], [0, 0, 1, 0], [0, 0, 1, 0]]),
            (2, "tell", [[0, 0, 1, 1], [0, 0, 1, 1], [0, 0, 1, 0]]),
            (2, "wait", [[0, 0, 1, 1], [0, 0, 1, 1], [0, 0, 1, 0]]),
            (1, "hear", [[0, 0, 1, 1], [0, 0, 1, 1], [0, 0, 1, 0]]),
            (1, "pass", [[0, 0, 1, 1], [0, 0, 1, 1], [0, 0, 1, 0]]),
            (1, "come", [[0, 0, 1, 1], [0, 0, 1, 1], [0, 0, 1, 0]]),
            (1, "tell", [[0, 0, 1, 1], [0, 0, 1, 1], [1, 0, 1, 0]]),
            (1, "wait", [[0, 0, 1, 1], [0, 0, 1, 1], [1, 0, 1, 0]]),
            (0, "hear", [[0, 0, 1, 1], [0, 0, 1, 1], [1, 0, 1, 0]]),
            (0, "tell", [[0, 0, 1, 1], [0, 0, 1, 1], [1, 0, 1, 1]]),
            (0, "hear", [[0, 0, 1, 1], [0, 0, 1, 1], [1, 0, 1, 1]]),
            (2, "hear", [[0, 0, 1, 1], [0, 0, 1, 1], [1, 0, 1, 1]]),
            (2, "pass", [[0, 0, 1, 1], [0, 0, 1, 1], [1, 0, 1, 1]]),
            (0, "pass", [[0, 0, 1, 1], [0, 0, 1, 1], [1, 0, 1, 1]]),
        ])


class AnyNumberOfMembers(Rows):
    """Round by round, with the boxes kept by the test itself."""

    def setUp(self):
        self.store = []

    def tell(self, place, turn, k, many):
        at = turn if k % 2 == 0 else ROUNDS[many] + turn
        self.store[(place + 2 ** turn) % many][at] = SIGNS[k - 1]

    def each(self, hall, members, word):
        for walker in members:
            hall = self.check_step(hall, walker, word, self.store)
        return hall

    def time(self, hall, members, k):
        """One time: round by round, all tell, backwards from the last one, so that some hear in vain at first."""
        many = len(members)
        hall = self.each(hall, members, "come")
        for turn in range(ROUNDS[many]):
            told = []
            for place in range(many - 1, -1, -1):
                self.tell(place, turn, k, many)
                hall = self.check_step(hall, members[place], "tell", self.store)
                told.append(place)
                heard = (place - 2 ** turn) % many in told
                self.check_step(hall, members[place], "hear" if heard else "wait", self.store)
            hall = self.each(hall, members, "hear")
        return self.each(hall, members, "pass")

    def test_times_one_to_forty(self):
        for many in ROUNDS:
            members = [(5 * place + 2) % 12 for place in range(many)]
            with self.subTest(many=many):
                rows = [[0] * 40 if walker in members else [] for walker in range(12)]
                hall = begun([("row", members)], rows)
                self.store = [[0] * (2 * ROUNDS[many]) for _ in members]
                for k in range(1, 41):
                    hall = self.time(hall, members, k)
                    self.assertEqual({passed(hall, walker, 0) for walker in members}, {k})
                self.assertEqual([ahead(hall, walker) for walker in range(12)], [(None, "end")] * 12)

    def test_boxes_behind_whole_times(self):
        # For even times the first boxes, for odd ones the others.
        told = [(0, 0), (0, 1), (1, 1), (1, 0), (0, 0), (0, 1), (1, 1), (1, 0), (0, 0), (0, 1)]
        for many in ROUNDS:
            with self.subTest(many=many):
                members = list(range(many))
                hall = begun([("row", members)], [[0] * 9] * many)
                self.store = [[0] * (2 * ROUNDS[many]) for _ in members]
                for k in range(1, 10):
                    hall = self.time(hall, members, k)
                    even, odd = told[k]
                    self.assertEqual(boxes(hall, 0), [[even] * ROUNDS[many] + [odd] * ROUNDS[many]] * many)

    def test_each_alone_as_far_as_it_comes(self):
        for many in [2, 3, 4, 5, 8, 12]:
            for place in range(many):
                with self.subTest(many=many, place=place):
                    hall = begun([("row", list(range(many)))], [[0]] * many)
                    self.store = [[0] * (2 * ROUNDS[many]) for _ in range(many)]
                    hall = self.check_step(hall, place, "come", self.store)
                    self.tell(place, 0, 1, many)
                    hall = self.check_step(hall, place, "tell", self.store)
                    for _ in range(3):
                        hall = self.check_step(hall, place, "wait", self.store)

    def test_one_that_comes_late_stops_who_needs_it(self):
        # Place 3 of 5 does not come; round by round fewer of the others go on.
        hall = begun([("row", [0, 1, 2, 3, 4])], [[0]] * 5)
        for _ in range(20):
            for walker in [0, 1, 2, 4]:
                hall = stepped(hall, walker)[0]
        self.assertEqual(boxes(hall, 0), [
            [0, 0, 0, 1, 0, 0], [0, 0, 0, 1, 0, 1], [0, 0, 0, 1, 1, 0], [0, 0, 0, 1, 1, 0], [0, 0, 0, 0, 1, 0],
        ])
        self.assertEqual([idle(hall, walker) for walker in range(5)], [True, True, True, False, True])


if __name__ == "__main__":
    unittest.main()
