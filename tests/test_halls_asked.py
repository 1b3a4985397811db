"""Points 4 to 6: what a hall tells of its walkers and boxes, just begun and with walkers on their way."""

import unittest

from barrierrow import halls
from barrierrow.errors import HallError, NoGate, NoWalker
from barrierrow.halls import Hall, ahead, begun, boxes, came, passed
from barrierrow.weaving import rested, woven

NOBODY = [-1, -2, -3, -4, -100, 3, 4, 12, 13, 10 ** 30]
NOWHERE = [-1, -2, -3, -100, 2, 3, 12, 13, 10 ** 30]


class JustBegun(unittest.TestCase):
    def setUp(self):
        self.hall = begun(
            [("count", [2, 0]), ("row", [1, 2, 0, 3, 4]), ("count", [3]), ("row", [4])],
            [[1, 0, 1], [1], [0, 0], [2, 1], []],
        )

    def test_ahead(self):
        told = [ahead(self.hall, walker) for walker in range(5)]
        self.assertEqual(told, [(1, "come"), (1, "come"), (0, "come"), (2, "come"), (None, "end")])
        self.assertEqual({each.__class__ for each in told}, {tuple})

    def test_nobody_has_passed_or_come(self):
        for walker in range(5):
            for gate in range(4):
                with self.subTest(walker=walker, gate=gate):
                    self.assertEqual(passed(self.hall, walker, gate), 0)
                    self.assertEqual(came(self.hall, walker, gate), 0)
                    self.assertIs(int, passed(self.hall, walker, gate).__class__)
                    self.assertIs(int, came(self.hall, walker, gate).__class__)

    def test_boxes(self):
        self.assertEqual(boxes(self.hall, 0), [2, 0])
        self.assertEqual(boxes(self.hall, 1), [[0] * 6] * 5)
        self.assertEqual(boxes(self.hall, 2), [1, 0])
        self.assertEqual(boxes(self.hall, 3), [[]])

    def test_boxes_are_lists(self):
        self.assertIs(list, boxes(self.hall, 0).__class__)
        self.assertIs(list, boxes(self.hall, 1).__class__)
        self.assertEqual({own.__class__ for own in boxes(self.hall, 1)}, {list})

    def test_boxes_for_each_number_of_members(self):
        rounds = {1: 0, 2: 1, 3: 2, 4: 2, 5: 3, 6: 3, 7: 3, 8: 3, 9: 4, 10: 4, 11: 4, 12: 4}
        for many in rounds:
            with self.subTest(many=many):
                members = list(range(many))
                hall = begun([("count", members), ("row", members)], [[]] * many)
                self.assertEqual(boxes(hall, 0), [many, 0])
                self.assertEqual(boxes(hall, 1), [[0] * (2 * rounds[many])] * many)


class Refused(unittest.TestCase):
    def setUp(self):
        self.hall = begun([("count", [0, 1]), ("row", [2])], [[0], [], [1]])

    def refused(self, kind, ask, *told):
        with self.assertRaises(HallError) as caught:
            ask(self.hall, *told)
        self.assertIs(kind, caught.exception.__class__)

    def test_no_walker(self):
        for walker in NOBODY:
            with self.subTest(walker=walker):
                self.refused(NoWalker, ahead, walker)
                for gate in range(2):
                    self.refused(NoWalker, passed, walker, gate)
                    self.refused(NoWalker, came, walker, gate)

    def test_no_gate(self):
        for gate in NOWHERE:
            with self.subTest(gate=gate):
                self.refused(NoGate, boxes, gate)
                for walker in range(3):
                    self.refused(NoGate, passed, walker, gate)
                    self.refused(NoGate, came, walker, gate)

    def test_no_walker_ahead_of_no_gate(self):
        for walker in NOBODY:
            for gate in NOWHERE:
                with self.subTest(walker=walker, gate=gate):
                    self.refused(NoWalker, passed, walker, gate)
                    self.refused(NoWalker, came, walker, gate)

    def test_the_last_ones_there_are(self):
        members = list(range(12))
        self.hall = begun([("row", members)] * 12, [[11]] * 12)
        self.assertEqual(ahead(self.hall, 11), (11, "come"))
        self.assertEqual(passed(self.hall, 11, 11), 0)
        self.assertEqual(came(self.hall, 11, 11), 0)
        self.assertEqual(boxes(self.hall, 11), [[0] * 8] * 12)
        self.refused(NoWalker, ahead, 12)
        self.refused(NoGate, boxes, 12)
        self.refused(NoGate, came, 11, 12)


class OnTheWay(unittest.TestCase):
    """Walkers between two steps; what the steps themselves do is tested in the files on steps."""

    def hall(self, *weave):
        begin = begun([("count", [0, 1]), ("row", [1, 0])], [[0, 0, 1, 0], [0, 0, 1, 0]])
        return woven(begin, list(weave))[0]

    def told(self, hall, walker):
        return [ahead(hall, walker), [(passed(hall, walker, gate), came(hall, walker, gate)) for gate in range(2)]]

    def test_within_a_gate_that_counts(self):
        self.assertEqual(self.told(self.hall(0), 0), [(0, "look"), [(0, 1), (0, 0)]])
        self.assertEqual(self.told(self.hall(0, 0, 0), 0), [(0, "look"), [(0, 1), (0, 0)]])
        self.assertEqual(self.told(self.hall(0), 1), [(0, "come"), [(0, 0), (0, 0)]])
        self.assertEqual(self.told(self.hall(0, 1), 1), [(0, "fill"), [(0, 1), (0, 0)]])
        self.assertEqual(self.told(self.hall(0, 1, 1), 1), [(0, "turn"), [(0, 1), (0, 0)]])
        self.assertEqual(self.told(self.hall(0, 1, 1, 1), 1), [(0, "pass"), [(0, 1), (0, 0)]])
        self.assertEqual(self.told(self.hall(0, 1, 1, 1, 0), 0), [(0, "pass"), [(0, 1), (0, 0)]])

    def test_ahead_of_the_same_gate_again_and_within_it(self):
        self.assertEqual(self.told(self.hall(0, 1, 1, 1, 1), 1), [(0, "come"), [(1, 1), (0, 0)]])
        self.assertEqual(self.told(self.hall(0, 1, 1, 1, 1, 1), 1), [(0, "look"), [(1, 2), (0, 0)]])

    def test_within_a_gate_in_rows(self):
        hall = self.hall(0, 1, 1, 1, 1, 0, 0, 0, 1, 1, 1, 1, 0, 0)
        self.assertEqual(self.told(hall, 0), [(1, "come"), [(2, 2), (0, 0)]])
        due = [("tell", (0, 1)), ("hear", (0, 1)), ("hear", (0, 1))]
        for word, counts in due:
            hall = woven(hall, [0])[0]
            self.assertEqual(self.told(hall, 0), [(1, word), [(2, 2), counts]])
        hall = woven(hall, [1, 1, 0])[0]
        self.assertEqual(self.told(hall, 0), [(1, "pass"), [(2, 2), (0, 1)]])
        self.assertEqual(self.told(hall, 1), [(1, "hear"), [(2, 2), (0, 1)]])
        self.assertEqual(self.told(woven(hall, [0])[0], 0), [(0, "come"), [(2, 2), (1, 1)]])
        self.assertEqual(boxes(hall, 1), [[0, 1], [0, 1]])

    def test_ended(self):
        hall = rested(self.hall())[0]
        for walker in [0, 1]:
            self.assertEqual(self.told(hall, walker), [(None, "end"), [(3, 3), (1, 1)]])

    def test_no_member(self):
        hall = begun([("count", [0]), ("row", [1])], [[0, 0], [1]])
        for hall in [hall, woven(hall, [0, 1])[0], rested(hall)[0]]:
            self.assertEqual([passed(hall, 0, 1), came(hall, 0, 1), passed(hall, 1, 0), came(hall, 1, 0)], [0] * 4)


class Interface(unittest.TestCase):
    def test_each_is_defined_in_its_file(self):
        for name in ["Hall", "begun", "passed", "came", "boxes", "ahead"]:
            self.assertEqual(getattr(halls, name).__module__, "barrierrow.halls")

    def test_begun_gives_a_hall(self):
        self.assertIs(Hall, begun([("count", [0])], [[0]]).__class__)

    def test_arguments_by_name(self):
        hall = begun(gates=[("count", [0])], rows=[[0]])
        self.assertEqual(passed(hall=hall, walker=0, gate=0), 0)
        self.assertEqual(came(hall=hall, walker=0, gate=0), 0)
        self.assertEqual(boxes(hall=hall, gate=0), [1, 0])
        self.assertEqual(ahead(hall=hall, walker=0), (0, "come"))


if __name__ == "__main__":
    unittest.main()
