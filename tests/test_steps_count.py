"""Points 5 and 7: each step at a gate that counts, its word, and left and side behind it."""

import unittest

from barrierrow.halls import ahead, begun, boxes, came, passed
from barrierrow.steps import idle, stepped


class Counting(unittest.TestCase):
    def play(self, hall, script, gate=0):
        """Each line of the script: the walker, the word by which its step is told, left and side behind it."""
        for at, (walker, word, left, side) in enumerate(script):
            with self.subTest(at=at, walker=walker, word=word):
                due = ahead(hall, walker)
                before = boxes(hall, gate)
                self.assertEqual(idle(hall, walker), word == "wait")
                behind, told = stepped(hall, walker)
                self.assertEqual(told, (walker, gate, word))
                self.assertEqual(boxes(behind, gate), [left, side])
                self.assertEqual(due, (gate, "look" if word == "wait" else word))
                if word in ("wait", "look", "pass"):
                    self.assertEqual(before, [left, side])
            hall = behind
        return hall


class OneMember(Counting):
    def test_every_word(self):
        hall = self.play(begun([("count", [0])], [[0, 0, 0]]), [
            (0, "come", 0, 0), (0, "fill", 1, 0), (0, "turn", 1, 1), (0, "pass", 1, 1),
            (0, "come", 0, 1), (0, "fill", 1, 1), (0, "turn", 1, 0), (0, "pass", 1, 0),
            (0, "come", 0, 0), (0, "fill", 1, 0), (0, "turn", 1, 1), (0, "pass", 1, 1),
        ])
        self.assertEqual((ahead(hall, 0), passed(hall, 0, 0)), ((None, "end"), 3))

    def test_forty_times(self):
        hall = begun([("row", [0]), ("count", [1])], [[0], [1] * 40])
        for k in range(1, 41):
            side = k % 2
            hall = self.play(hall, [
                (1, "come", 0, 1 - side), (1, "fill", 1, 1 - side), (1, "turn", 1, side), (1, "pass", 1, side),
            ], 1)
            self.assertEqual((passed(hall, 1, 1), came(hall, 1, 1)), (k, k))
        self.assertEqual(ahead(hall, 1), (None, "end"))


class TwoMembers(Counting):
    def test_every_word_and_used_again_at_once(self):
        hall = begun([("count", [1, 0])], [[0, 0, 0], [0, 0]])
        hall = self.play(hall, [
            (0, "come", 1, 0), (0, "wait", 1, 0), (0, "wait", 1, 0),
            (1, "come", 0, 0), (0, "wait", 0, 0),
            (1, "fill", 2, 0), (0, "wait", 2, 0),
            (1, "turn", 2, 1), (0, "look", 2, 1), (1, "pass", 2, 1),
            # 1 is there for the second time while 0 has not passed for the first one.
            (1, "come", 1, 1), (1, "wait", 1, 1), (0, "pass", 1, 1), (1, "wait", 1, 1),
            (0, "come", 0, 1), (1, "wait", 0, 1), (0, "fill", 2, 1), (1, "wait", 2, 1),
            (0, "turn", 2, 0), (0, "pass", 2, 0), (0, "come", 1, 0),
            (1, "look", 1, 0), (0, "wait", 1, 0), (1, "pass", 1, 0), (0, "wait", 1, 0),
        ])
        self.assertEqual([ahead(hall, 0), ahead(hall, 1)], [(0, "look"), (None, "end")])
        self.assertEqual([passed(hall, 0, 0), came(hall, 0, 0)], [2, 3])
        self.assertEqual([passed(hall, 1, 0), came(hall, 1, 0)], [2, 2])

    def test_looking_first_behind_turn(self):
        self.play(begun([("count", [0, 1])], [[0], [0]]), [
            (1, "come", 1, 0), (0, "come", 0, 0), (0, "fill", 2, 0), (0, "turn", 2, 1), (0, "pass", 2, 1),
            (1, "look", 2, 1), (1, "pass", 2, 1),
        ])

    def test_passing_long_behind_a_good_look(self):
        # What 1 saw once is enough: it passes though side would not show its sign any more.
        hall = begun([("count", [0, 1, 2])], [[0, 0], [0], [0, 0]])
        hall = self.play(hall, [
            (1, "come", 2, 0), (0, "come", 1, 0), (2, "come", 0, 0), (2, "fill", 3, 0), (2, "turn", 3, 1),
            (1, "look", 3, 1), (0, "look", 3, 1), (0, "pass", 3, 1), (0, "come", 2, 1), (0, "wait", 2, 1),
            (2, "pass", 2, 1), (2, "come", 1, 1), (2, "wait", 1, 1), (1, "pass", 1, 1),
            (0, "wait", 1, 1), (2, "wait", 1, 1),
        ])
        self.assertEqual(ahead(hall, 1), (None, "end"))


class MoreMembers(Counting):
    def time(self, order, k):
        """One time: all come in this order, look in vain and then not, and pass."""
        many, was, side = len(order), 1 - k % 2, k % 2
        last = order[-1]
        script = []
        for at, walker in enumerate(order[:-1]):
            script += [(walker, "come", many - 1 - at, was)]
            script += [(each, "wait", many - 1 - at, was) for each in order[:at + 1]]
        script += [(last, "come", 0, was)] + [(each, "wait", 0, was) for each in order[:-1]]
        script += [(last, "fill", many, was)] + [(each, "wait", many, was) for each in order[:-1]]
        script += [(last, "turn", many, side)]
        script += [(each, "look", many, side) for each in order[:-1]]
        script += [(each, "pass", many, side) for each in order]
        return script

    def test_written_out_for_three(self):
        self.assertEqual(self.time([2, 0, 1], 2)[:7], [
            (2, "come", 2, 1), (2, "wait", 2, 1), (0, "come", 1, 1), (2, "wait", 1, 1), (0, "wait", 1, 1),
            (1, "come", 0, 1), (2, "wait", 0, 1),
        ])

    def test_many_times_one_behind_another(self):
        for many in [2, 3, 4, 5, 8, 12]:
            hall = begun([("count", list(range(many)))], [[0] * 40] * many)
            for k in range(1, 41):
                order = [(3 * k + at) % many for at in range(many)]
                hall = self.play(hall, self.time(order, k))
            self.assertEqual([passed(hall, walker, 0) for walker in range(many)], [40] * many)
            self.assertEqual([ahead(hall, walker) for walker in range(many)], [(None, "end")] * many)

    def test_again_at_once_while_all_others_have_not_passed(self):
        for many in [3, 5, 12]:
            others = list(range(1, many))
            hall = begun([("count", list(range(many)))], [[0] * 4] * many)
            script = [(each, "come", many - each, 0) for each in others]
            script += [(0, "come", 0, 0), (0, "fill", many, 0), (0, "turn", many, 1), (0, "pass", many, 1)]
            script += [(0, "come", many - 1, 1), (0, "wait", many - 1, 1)]
            script += [(each, "look", many - 1, 1) for each in others]
            script += [(0, "wait", many - 1, 1)]
            script += [(each, "pass", many - 1, 1) for each in others]
            script += [(each, "come", many - 1 - each, 1) for each in others]
            script += [(0, "wait", 0, 1), (others[-1], "fill", many, 1), (others[-1], "turn", many, 0)]
            script += [(0, "look", many, 0), (0, "pass", many, 0), (0, "come", many - 1, 0), (0, "wait", many - 1, 0)]
            self.play(hall, script)

    def test_walkers_that_are_no_members_count_for_nothing(self):
        hall = begun([("count", [3, 1]), ("count", [0, 1, 2, 3])], [[1], [0, 1], [1], [0, 1]])
        self.play(hall, [
            (0, "come", 3, 0), (2, "come", 2, 0), (0, "wait", 2, 0),
        ], 1)
        self.play(hall, [
            (1, "come", 1, 0), (1, "wait", 1, 0), (3, "come", 0, 0), (3, "fill", 2, 0), (3, "turn", 2, 1),
            (1, "look", 2, 1), (1, "pass", 2, 1), (3, "pass", 2, 1),
        ], 0)


if __name__ == "__main__":
    unittest.main()
