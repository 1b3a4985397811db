"""Points 2 and 3: what a hall may be begun by, what is refused, and in which order."""

import copy
import unittest

from barrierrow import errors
from barrierrow.errors import HallError, NoGate, NoHall, NoRow, NoWalker, Stranger
from barrierrow.halls import ahead, begun, boxes
from helper import everything

KINDS = [NoHall, NoGate, NoRow, Stranger, NoWalker, errors.NoRest]
EVERYBODY = list(range(12))


class Refusals(unittest.TestCase):
    def refused(self, kind, gates, rows):
        was = copy.deepcopy((gates, rows))
        with self.assertRaises(HallError) as caught:
            begun(gates, rows)
        self.assertIsInstance(caught.exception, ValueError)
        self.assertEqual([each for each in KINDS if isinstance(caught.exception, each)], [kind])
        self.assertEqual((gates, rows), was)


class NoHalls(Refusals):
    def test_no_walkers(self):
        self.refused(NoHall, [("count", [0])], [])

    def test_too_many_walkers(self):
        self.refused(NoHall, [("count", [0])], [[]] * 13)
        self.refused(NoHall, [("count", [0])], [[]] * 40)

    def test_no_gates(self):
        self.refused(NoHall, [], [[]])

    def test_too_many_gates(self):
        self.refused(NoHall, [("row", [0])] * 13, [[]])
        self.refused(NoHall, [("row", [0])] * 50, [[]])

    def test_neither_walkers_nor_gates(self):
        self.refused(NoHall, [], [])
        self.refused(NoHall, [("count", [0])] * 13, [[]] * 13)

    def test_ahead_of_everything_else(self):
        self.refused(NoHall, [("bad", [])], [])
        self.refused(NoHall, [("bad", [])], [[]] * 13)
        self.refused(NoHall, [("bad", [7, 7])] * 13, [[]])
        self.refused(NoHall, [], [[0] * 41])
        self.refused(NoHall, [], [[0]])
        self.refused(NoHall, [("count", [0])] * 13, [[13], [0]])


class NoGates(Refusals):
    def test_another_word(self):
        for word in ["", " ", "c", "count ", " row", "Count", "ROW", "counts", "rows", "countrow", "come", "\n"]:
            with self.subTest(word=word):
                self.refused(NoGate, [(word, [0])], [[]])

    def test_no_members(self):
        self.refused(NoGate, [("count", [])], [[]])
        self.refused(NoGate, [("row", [])], [[]])

    def test_a_member_that_is_no_walker(self):
        for member in [-1, -2, -1000, 2, 3, 12, 10 ** 30]:
            for word in ["count", "row"]:
                with self.subTest(member=member, word=word):
                    self.refused(NoGate, [(word, [member])], [[], []])
                    self.refused(NoGate, [(word, [0, 1, member])], [[], []])

    def test_a_member_twice(self):
        self.refused(NoGate, [("count", [0, 0])], [[]])
        self.refused(NoGate, [("row", [1, 0, 1])], [[], []])
        self.refused(NoGate, [("row", EVERYBODY + [11])], [[]] * 12)

    def test_of_any_gate(self):
        good = ("row", [1, 0])
        for at in range(12):
            gates = [good] * 12
            gates[at] = ("row", [2])
            with self.subTest(at=at):
                self.refused(NoGate, gates, [[], []])

    def test_ahead_of_rows(self):
        self.refused(NoGate, [("count", [0]), ("bad", [0])], [[0] * 41])
        self.refused(NoGate, [("count", [0]), ("row", [])], [[2]])
        self.refused(NoGate, [("count", [0]), ("row", [0, 0])], [[], [0]])
        self.refused(NoGate, [("count", [0]), ("row", [2])], [[-1], [0]])


class NoRows(Refusals):
    def test_too_long(self):
        self.refused(NoRow, [("count", [0])], [[0] * 41])
        self.refused(NoRow, [("row", [0, 1])], [[0] * 40, [0] * 41])
        self.refused(NoRow, [("row", [0, 1])], [[0] * 400, []])

    def test_a_number_that_no_gate_has(self):
        for gate in [-1, -2, -100, 2, 3, 12, 10 ** 30]:
            with self.subTest(gate=gate):
                gates = [("count", [0, 1]), ("row", [0, 1])]
                self.refused(NoRow, gates, [[gate], []])
                self.refused(NoRow, gates, [[0, 1], [0, 1, gate]])

    def test_twelve_where_there_are_twelve_gates(self):
        gates = [("count", [0])] * 12
        self.refused(NoRow, gates, [[11, 12]])

    def test_ahead_of_a_stranger_in_the_same_row_where_it_is_too_long(self):
        self.refused(NoRow, [("count", [1])], [[0] * 41, []])
        self.refused(NoRow, [("count", [0]), ("row", [1])], [[1] + [0] * 40, []])

    def test_ahead_of_a_stranger_further_on(self):
        gates = [("count", [0]), ("row", [1])]
        self.refused(NoRow, gates, [[0, 2, 1], []])
        self.refused(NoRow, gates, [[-1, 1], [0]])
        self.refused(NoRow, gates, [[2], [0]])
        self.refused(NoRow, gates, [[0], [1] * 40 + [0]])


class Strangers(Refusals):
    def test_a_gate_of_which_the_walker_is_no_member(self):
        gates = [("count", [0]), ("row", [1])]
        self.refused(Stranger, gates, [[1], []])
        self.refused(Stranger, gates, [[], [0]])
        self.refused(Stranger, gates, [[0, 0, 1], [1]])
        self.refused(Stranger, gates, [[0], [1] * 39 + [0]])

    def test_ahead_of_what_is_wrong_further_on(self):
        gates = [("count", [0]), ("row", [1])]
        self.refused(Stranger, gates, [[1, 2], []])
        self.refused(Stranger, gates, [[0, 1, -1], []])
        self.refused(Stranger, gates, [[1], [1] * 41])
        self.refused(Stranger, gates, [[1], [7]])


class Begun(unittest.TestCase):
    def test_one_walker_and_one_gate(self):
        for word in ["count", "row"]:
            hall = begun([(word, [0])], [[0]])
            self.assertEqual(ahead(hall, 0), (0, "come"))

    def test_twelve_walkers_and_twelve_gates(self):
        gates = [(["count", "row"][gate % 2], EVERYBODY) for gate in range(12)]
        rows = [[(walker + at) % 12 for at in range(40)] for walker in range(12)]
        hall = begun(gates, rows)
        self.assertEqual([ahead(hall, walker) for walker in range(12)], [(walker, "come") for walker in range(12)])

    def test_a_row_of_forty(self):
        hall = begun([("row", [0])], [[0] * 40])
        self.assertEqual(ahead(hall, 0), (0, "come"))

    def test_an_empty_row(self):
        hall = begun([("row", [0, 1])], [[], [0]])
        self.assertEqual([ahead(hall, 0), ahead(hall, 1)], [(None, "end"), (0, "come")])

    def test_a_gate_straight_behind_itself(self):
        hall = begun([("count", [0]), ("row", [0])], [[1, 1, 0, 0, 1]])
        self.assertEqual(ahead(hall, 0), (1, "come"))

    def test_members_in_any_order(self):
        hall = begun([("row", [2, 0, 1])], [[0], [0], []])
        self.assertEqual(boxes(hall, 0), [[0] * 4] * 3)


class Untouched(unittest.TestCase):
    def setUp(self):
        self.gates = [("count", [0, 1]), ("row", [1, 2, 0]), ("row", [2])]
        self.rows = [[0, 1], [1, 1, 0], []]

    def test_what_is_handed_in_stays(self):
        was = copy.deepcopy((self.gates, self.rows))
        everything(begun(self.gates, self.rows), 3, 3)
        self.assertEqual((self.gates, self.rows), was)

    def test_what_becomes_of_it_later_changes_no_hall(self):
        hall = begun(self.gates, self.rows)
        was = everything(hall, 3, 3)
        self.rows[0].insert(0, 1)
        self.rows[1].clear()
        self.rows[2].append(2)
        self.rows.append([])
        self.gates[0][1].append(2)
        self.gates[1][1].pop()
        self.gates[2] = ("count", [0])
        self.gates.pop(0)
        self.assertEqual(everything(hall, 3, 3), was)
        with self.assertRaises(NoWalker):
            ahead(hall, 3)

    def test_a_hall_holds_nothing_that_can_be_changed(self):
        # What the members are is seen by steps only, so what is asked of a hall just begun would not show it.
        held = list(vars(begun(self.gates, self.rows)).values())
        while held:
            each = held.pop()
            self.assertIn(each.__class__, (tuple, int, str))
            if each.__class__ is tuple:
                held.extend(each)

    def test_one_list_handed_in_twice(self):
        both = [0, 1]
        hall = begun([("count", both), ("row", both)], [both, both])
        was = everything(hall, 2, 2)
        both.reverse()
        both.append(7)
        self.assertEqual(everything(hall, 2, 2), was)

    def test_what_becomes_of_boxes_that_are_given_changes_no_hall(self):
        hall = begun(self.gates, self.rows)
        was = everything(hall, 3, 3)
        counted = boxes(hall, 0)
        counted[0] = 9
        counted.append(5)
        in_rows = boxes(hall, 1)
        in_rows[0][0] = 1
        in_rows[2].append(1)
        in_rows.pop()
        alone = boxes(hall, 2)
        alone[0].append(1)
        self.assertEqual(everything(hall, 3, 3), was)

    def test_the_boxes_that_are_given_are_lists_of_their_own(self):
        hall = begun(self.gates, self.rows)
        given = boxes(hall, 1)
        given[0][0] = 1
        self.assertEqual(given, [[1, 0, 0, 0], [0, 0, 0, 0], [0, 0, 0, 0]])

    def test_what_is_asked_changes_nothing_that_was_told(self):
        hall = begun(self.gates, self.rows)
        told = everything(hall, 3, 3)
        kept = copy.deepcopy(told)
        everything(hall, 3, 3)
        begun(self.gates, [[], [], []])
        self.assertEqual(told, kept)

    def test_two_halls_of_the_same_lists_stand_apart(self):
        one = begun(self.gates, self.rows)
        other = begun(self.gates, self.rows)
        boxes(one, 1)[0][0] = 1
        self.assertEqual(everything(one, 3, 3), everything(other, 3, 3))


if __name__ == "__main__":
    unittest.main()
