"""Points 4 and 7: which step is next, how it is told, and that a step gives a hall of its own."""

import random
import unittest

import helper
from barrierrow import steps
from barrierrow.errors import NoWalker
from barrierrow.halls import Hall, ahead, begun, boxes, came, passed
from barrierrow.steps import idle, stepped

NOBODY = [-1, -2, -3, -4, -100, -10 ** 30, 3, 4, 11, 12, 13, 1000, 10 ** 30]


def after(hall, *weave):
    for walker in weave:
        hall = stepped(hall, walker)[0]
    return hall


def told(hall, *weave):
    out = []
    for walker in weave:
        hall, step = stepped(hall, walker)
        out.append(step)
    return out


class Ended(unittest.TestCase):
    def test_an_empty_row(self):
        hall = begun([("count", [0, 1])], [[], [0]])
        for _ in range(3):
            self.assertTrue(idle(hall, 0))
            behind, step = stepped(hall, 0)
            self.assertEqual(step, (0, None, "end"))
            self.assertEqual(helper.everything(behind, 2, 1), helper.everything(hall, 2, 1))
            hall = behind
        self.assertEqual(ahead(hall, 0), (None, "end"))

    def test_one_that_has_ended(self):
        hall = begun([("count", [0]), ("row", [0])], [[0, 1], []])
        ended = [(0, 0, "come"), (0, 0, "fill"), (0, 0, "turn"), (0, 0, "pass"), (0, 1, "come"), (0, 1, "pass")]
        self.assertEqual(told(hall, *[0] * 9), ended + [(0, None, "end")] * 3)
        hall = after(hall, *[0] * 6)
        self.assertEqual([idle(hall, 0), idle(after(hall, 0, 0), 0)], [True, True])
        self.assertEqual(helper.everything(after(hall, 0, 1, 0), 2, 2), helper.everything(hall, 2, 2))
        self.assertEqual([boxes(hall, 0), boxes(hall, 1)], [[1, 1], [[]]])

    def test_ahead_of_the_end_nobody_is_idle_who_has_not_looked(self):
        hall = begun([("row", [0])], [[0]])
        self.assertEqual([idle(hall, 0), idle(after(hall, 0), 0), idle(after(hall, 0, 0), 0)], [False, False, True])


class Going(unittest.TestCase):
    def test_a_row_that_holds_a_gate_several_times(self):
        hall = begun([("count", [0]), ("row", [0])], [[0, 0, 1, 0, 1, 1]])
        count = ["come", "fill", "turn", "pass"]
        due = [(0, word) for word in count * 2] + [(1, "come"), (1, "pass")]
        due += [(0, word) for word in count] + [(1, "come"), (1, "pass")] * 2
        counts = {0: [0, 0], 1: [0, 0]}
        for gate, word in due:
            self.assertEqual(ahead(hall, 0), (gate, word))
            hall, step = stepped(hall, 0)
            self.assertEqual(step, (0, gate, word))
            counts[gate][0] += word == "pass"
            counts[gate][1] += word == "come"
            self.assertEqual([[passed(hall, 0, each), came(hall, 0, each)] for each in (0, 1)], [counts[0], counts[1]])
        self.assertEqual([ahead(hall, 0), boxes(hall, 0)], [(None, "end"), [1, 1]])

    def test_signs_go_by_times_at_the_gate_not_by_places_in_the_row(self):
        # Walker 1 is at gate 0 for the first time by the third number of its row.
        hall = begun([("count", [0, 1]), ("count", [1])], [[0], [1, 1, 0]])
        self.assertEqual(told(hall, *[1] * 9)[8], (1, 0, "come"))
        self.assertEqual(told(hall, *[1] * 9, 0, 0, 0, 1), [
            (1, 1, "come"), (1, 1, "fill"), (1, 1, "turn"), (1, 1, "pass"),
            (1, 1, "come"), (1, 1, "fill"), (1, 1, "turn"), (1, 1, "pass"),
            (1, 0, "come"), (0, 0, "come"), (0, 0, "fill"), (0, 0, "turn"), (1, 0, "look"),
        ])
        self.assertEqual(boxes(after(hall, *[1] * 9, 0, 0, 0), 0), [2, 1])

    def test_several_gates_of_both_kinds(self):
        hall = begun([("row", [0, 1]), ("count", [1, 2]), ("row", [2])], [[0], [1, 0], [2, 1]])
        self.assertEqual(told(hall, 0, 0, 0, 1, 1, 2, 2, 2, 2, 2, 2, 1, 1, 1, 1, 1, 1, 0, 0, 0, 1, 2), [
            (0, 0, "come"), (0, 0, "tell"), (0, 0, "wait"), (1, 1, "come"), (1, 1, "wait"),
            (2, 2, "come"), (2, 2, "pass"), (2, 1, "come"), (2, 1, "fill"), (2, 1, "turn"), (2, 1, "pass"),
            (1, 1, "look"), (1, 1, "pass"), (1, 0, "come"), (1, 0, "tell"), (1, 0, "hear"), (1, 0, "pass"),
            (0, 0, "hear"), (0, 0, "pass"), (0, None, "end"), (1, None, "end"), (2, None, "end"),
        ])

    def test_a_step_changes_one_gate_at_most_and_one_walker(self):
        hall = begun([("row", [0, 1]), ("count", [0, 1]), ("row", [1, 0])], [[0, 1, 2], [0, 1, 2]])
        while not (idle(hall, 0) and idle(hall, 1)):
            for walker in [0, 1]:
                behind, (_, gate, _) = stepped(hall, walker)
                for each in range(3):
                    if each != gate:
                        self.assertEqual(boxes(behind, each), boxes(hall, each))
                self.assertEqual(ahead(behind, 1 - walker), ahead(hall, 1 - walker))
                hall = behind
        self.assertEqual([ahead(hall, 0), ahead(hall, 1)], [(None, "end")] * 2)


class OwnHalls(unittest.TestCase):
    def test_what_a_step_gives(self):
        hall = begun([("count", [0, 1]), ("row", [0, 1])], [[0], [1]])
        halls = [hall, after(hall, 0), after(hall, 0, 0), after(hall, 1), after(hall, 1, 1), after(hall, 1, 1, 1)]
        for each in halls:
            for walker in [0, 1]:
                pair = stepped(each, walker)
                self.assertIs(tuple, pair.__class__)
                self.assertEqual([part.__class__ for part in pair], [Hall, tuple])
                self.assertEqual(len(pair[1]), 3)
                self.assertIsNot(each, pair[0])

    def test_idle_is_true_or_false(self):
        hall = begun([("count", [0, 1]), ("row", [0, 1])], [[0], [1]])
        for each in [hall, after(hall, 0), after(hall, 1), after(hall, 1, 1)]:
            for walker in [0, 1]:
                self.assertIn(idle(each, walker).__class__, [bool])

    def test_where_nothing_changes_both_answer_alike(self):
        waiting = after(begun([("count", [0, 1]), ("row", [2, 3])], [[0], [0], [1], [1], []]), 0, 2, 2)
        for walker in [0, 2, 4]:
            behind, step = stepped(waiting, walker)
            self.assertIn(step[2], ["wait", "end"])
            self.assertEqual(helper.everything(behind, 5, 2), helper.everything(waiting, 5, 2))

    def test_elder_halls_stay_whatever_is_done_with_them(self):
        for seed in range(30):
            chance = random.Random(seed)
            gates, rows = helper.drawn(chance, 5, 8)
            size = len(rows), len(gates)
            hall = begun(gates, rows)
            line = [(hall, helper.everything(hall, *size))]
            for _ in range(120):
                hall, _ = stepped(hall, chance.randrange(len(rows)))
                line.append((hall, helper.everything(hall, *size)))
            for elder, was in line:
                self.assertEqual(helper.everything(elder, *size), was)

    def test_a_step_done_again_from_the_same_hall_is_told_alike(self):
        for seed in range(30):
            chance = random.Random(seed)
            gates, rows = helper.drawn(chance, 5, 8)
            size = len(rows), len(gates)
            hall = begun(gates, rows)
            for _ in range(80):
                walker = chance.randrange(len(rows))
                behind, step = stepped(hall, walker)
                for other in range(len(rows)):
                    stepped(hall, other)
                again, told_again = stepped(hall, walker)
                self.assertEqual(told_again, step)
                self.assertEqual(helper.everything(again, *size), helper.everything(behind, *size))
                hall = behind

    def test_two_ways_on_from_one_hall(self):
        hall = after(begun([("count", [0, 1])], [[0, 0], [0, 0]]), 0)
        one, other = after(hall, 1, 1, 1), after(hall, 0)
        self.assertEqual([boxes(one, 0), boxes(other, 0), boxes(hall, 0)], [[2, 1], [1, 0], [1, 0]])
        self.assertEqual([ahead(one, 1), ahead(other, 1), ahead(hall, 1)], [(0, "pass"), (0, "come"), (0, "come")])
        self.assertEqual(boxes(after(other, 1, 1, 1), 0), [2, 1])

    def test_what_becomes_of_the_lists_handed_in_changes_no_step(self):
        gates = [("row", [0, 1, 2]), ("count", [2, 0])]
        rows = [[0, 1], [0], [0, 1]]
        weave = [0, 1, 2] * 40
        hall = begun(gates, rows)
        was = told(hall, *weave)
        gates[0][1].reverse()
        gates[1][1].append(1)
        gates.pop()
        rows[0].pop()
        rows[1].append(1)
        rows.clear()
        self.assertEqual(told(hall, *weave), was)

    def test_what_becomes_of_boxes_that_are_given_changes_no_step(self):
        hall = after(begun([("row", [0, 1]), ("count", [0, 1])], [[0, 1], [0, 1]]), 0, 0)
        boxes(hall, 0)[0][1] = 1
        boxes(hall, 1)[0] = 1
        self.assertEqual(told(hall, 0), [(0, 0, "wait")])
        self.assertEqual(boxes(after(hall, 1, 1, 0, 0, 0), 1), [1, 0])


class OtherWayRound(unittest.TestCase):
    def check(self, hall, one, other, size):
        there, back = told(hall, one, other), told(hall, other, one)
        self.assertEqual(there, back[::-1])
        self.assertEqual(helper.everything(after(hall, one, other), *size),
                         helper.everything(after(hall, other, one), *size))

    def test_at_unlike_gates_or_where_one_has_ended(self):
        unlike = ended = 0
        for seed in range(60):
            chance = random.Random(seed)
            gates, rows = helper.drawn(chance, 6, 10)
            hall = begun(gates, rows)
            for _ in range(60):
                one, other = chance.randrange(len(rows)), chance.randrange(len(rows))
                here, there = ahead(hall, one)[0], ahead(hall, other)[0]
                if one != other and (here != there or here is None):
                    unlike += here is not None and there is not None
                    ended += here is None or there is None
                    self.check(hall, one, other, (len(rows), len(gates)))
                hall = stepped(hall, chance.randrange(len(rows)))[0]
        self.assertGreater(min(unlike, ended), 100)


class Refused(unittest.TestCase):
    def test_no_walker(self):
        hall = begun([("count", [0, 1]), ("row", [2])], [[0], [], [1]])
        for each in [hall, after(hall, 0), after(hall, 2, 2, 0)]:
            for walker in NOBODY:
                with self.subTest(walker=walker):
                    self.assertEqual(helper.kinds_raised(idle, each, walker), [NoWalker])
                    self.assertEqual(helper.kinds_raised(stepped, each, walker), [NoWalker])

    def test_the_last_of_one_and_of_twelve(self):
        for many in [1, 12]:
            hall = begun([("row", list(range(many)))], [[0]] * many)
            self.assertEqual(stepped(hall, many - 1)[1], (many - 1, 0, "come"))
            self.assertFalse(idle(hall, many - 1))
            for ask in [idle, stepped]:
                self.assertEqual(helper.kinds_raised(ask, hall, many), [NoWalker])
                self.assertEqual(helper.kinds_raised(ask, hall, -1), [NoWalker])
                self.assertEqual(helper.kinds_raised(ask, hall, -many), [NoWalker])


class Interface(unittest.TestCase):
    def test_each_is_defined_in_its_file(self):
        for name in ["idle", "stepped"]:
            self.assertEqual(getattr(steps, name).__module__, "barrierrow.steps")

    def test_arguments_by_name(self):
        hall = begun([("count", [0])], [[0]])
        self.assertEqual(stepped(hall=hall, walker=0)[1], (0, 0, "come"))
        self.assertIs(False, idle(hall=hall, walker=0))


if __name__ == "__main__":
    unittest.main()
