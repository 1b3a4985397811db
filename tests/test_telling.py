"""Points 10 and 11, and the interface's section on barrierrow/telling.py."""

import copy
import random
import unittest

import helper
from barrierrow import telling
from barrierrow.errors import NoGate, NoHall, NoRest, NoRow, NoWalker, Stranger
from barrierrow.halls import ahead, begun, passed
from barrierrow.telling import chain, foretold, missing
from barrierrow.weaving import rested, woven

NOBODY = [-1, -2, -3, -100, -10 ** 30, 3, 4, 12, 13, 1000, 10 ** 30]


class Foretold(unittest.TestCase):
    def test_nobody_goes_anywhere(self):
        self.assertEqual(foretold([("count", [0])], [[]]), [0])
        self.assertEqual(foretold([("row", [0, 1])], [[0], []]), [0, 0])

    def test_one_walker_alone(self):
        for word in ["count", "row"]:
            self.assertEqual(foretold([(word, [0])], [[0] * 40]), [40])

    def test_all_together(self):
        for word in ["count", "row"]:
            gates = [(word, list(range(12)))] * 12
            self.assertEqual(foretold(gates, [[at % 12 for at in range(40)]] * 12), [40] * 12)

    def test_as_often_as_the_one_who_comes_least(self):
        self.assertEqual(foretold([("count", [0, 1, 2])], [[0] * 5, [0] * 3, [0] * 4]), [3, 3, 3])

    def test_unlike_orders_of_gates(self):
        self.assertEqual(foretold([("count", [0, 1]), ("row", [1, 0])], [[0, 1], [1, 0]]), [0, 0])

    def test_one_waits_for_what_comes_of_others(self):
        gates = [("count", [2, 3]), ("row", [1, 2]), ("count", [0, 1])]
        self.assertEqual(foretold(gates, [[2, 2], [1, 2, 2], [0, 1], [0]]), [2, 3, 2, 1])
        self.assertEqual(foretold(gates, [[2, 2], [2, 1, 2], [0, 1, 1], [0, 0]]), [2, 3, 2, 1])
        self.assertEqual(foretold(gates, [[2, 2], [1, 2, 2], [0, 1], []]), [0, 0, 0, 0])

    def test_halfway(self):
        gates = [("row", [0, 1, 2]), ("count", [1]), ("count", [0, 2])]
        self.assertEqual(foretold(gates, [[0, 2, 0], [0, 1, 1, 0], [0, 0, 2]]), [1, 3, 1])

    def test_those_whose_number_is_beside_no_member(self):
        self.assertEqual(foretold([("row", [4, 2])], [[], [], [0, 0], [], [0]]), [0, 0, 1, 0, 1])

    def test_refused_as_in_point_3(self):
        good = [("count", [0, 1]), ("row", [1])]
        for kind, gates, rows in [
            (NoHall, good, []), (NoHall, good, [[]] * 13), (NoHall, [], [[]]), (NoHall, good * 6 + good[:1], [[], []]),
            (NoHall, [("bad", [])], []), (NoHall, [], [[0] * 41]),
            (NoGate, [("bad", [0])], [[]]), (NoGate, [("row", [])], [[]]), (NoGate, [("row", [1])], [[]]),
            (NoGate, [("row", [-1])], [[]]), (NoGate, [("count", [0, 0])], [[]]),
            (NoGate, good + [("count", [2])], [[0] * 41, []]),
            (NoRow, good, [[0] * 41, []]), (NoRow, good, [[2], []]), (NoRow, good, [[0], [0, -1]]),
            (NoRow, good, [[1] + [0] * 40, []]), (NoRow, good, [[2, 1], [7]]),
            (Stranger, good, [[1], []]), (Stranger, good, [[0, 1, 2], []]), (Stranger, good, [[1], [2]]),
        ]:
            with self.subTest(kind=kind, gates=gates, rows=rows):
                was = copy.deepcopy((gates, rows))
                self.assertEqual(helper.kinds_raised(foretold, gates, rows), [kind])
                self.assertEqual(helper.kinds_raised(begun, gates, rows), [kind])
                self.assertEqual((gates, rows), was)

    def test_what_is_handed_in_stays_and_what_is_given_is_the_askers_own(self):
        gates = [("count", [0, 1]), ("row", [1, 0])]
        rows = [[0, 1, 1], [0, 1]]
        was = copy.deepcopy((gates, rows))
        given = foretold(gates, rows)
        self.assertIs(list, given.__class__)
        self.assertEqual(given, [2, 2])
        self.assertEqual((gates, rows), was)
        rows[1].clear()
        self.assertEqual(given, [2, 2])
        given.append(9)
        self.assertEqual(foretold(*was), [2, 2])
        self.assertEqual(foretold(gates, rows), [0, 0])

    def test_one_list_for_several_rows(self):
        row = [0, 0]
        self.assertEqual(foretold([("count", [0, 1])], [row, row]), [2, 2])
        self.assertEqual(row, [0, 0])


class Missing(unittest.TestCase):
    def test_within_none(self):
        hall = begun([("count", [0, 1]), ("row", [2])], [[0], [], [1]])
        self.assertEqual([missing(hall, walker) for walker in range(3)], [[], [], []])
        self.assertEqual(missing(rested(hall)[0], 2), [])

    def test_by_places(self):
        for word in ["count", "row"]:
            hall = begun([(word, [3, 0, 2, 1])], [[0], [0], [0], [0]])
            hall = woven(hall, [2])[0]
            self.assertEqual([missing(hall, walker) for walker in range(4)], [[], [], [3, 0, 1], []])
            hall = woven(hall, [0])[0]
            self.assertEqual([missing(hall, walker) for walker in range(4)], [[3, 1], [], [3, 1], []])
            hall = woven(hall, [3])[0]
            self.assertEqual([missing(hall, walker) for walker in range(4)], [[1], [], [1], [1]])
            hall = woven(hall, [1])[0]
            self.assertEqual([missing(hall, walker) for walker in range(4)], [[], [], [], []])

    def test_at_later_times(self):
        # All have come once; who comes again misses those that have come but once, within the gate or not.
        hall = begun([("count", [2, 1, 0])], [[0, 0], [0, 0], [0]])
        hall = woven(hall, [0, 1, 2, 2, 2, 0, 0, 0, 2])[0]
        self.assertEqual([ahead(hall, walker) for walker in range(3)], [(0, "look"), (0, "look"), (None, "end")])
        self.assertEqual([missing(hall, walker) for walker in range(3)], [[2, 1], [], []])
        hall = woven(hall, [1, 1, 1])[0]
        self.assertEqual([missing(hall, walker) for walker in range(3)], [[2], [2], []])

    def test_all_words_within_a_gate(self):
        hall = begun([("count", [0, 1])], [[0, 0], [0, 0]])
        for weave, word in [([0, 1], "fill"), ([0, 1, 1], "turn"), ([0, 1, 1, 1], "pass")]:
            behind = woven(hall, weave)[0]
            self.assertEqual((ahead(behind, 1), missing(behind, 1)), ((0, word), []))
        behind = woven(hall, [0, 1, 1, 1, 1, 1])[0]
        self.assertEqual([missing(behind, 0), missing(behind, 1)], [[], [0]])

    def test_only_of_the_gate_within_which_it_is(self):
        hall = begun([("count", [0, 1]), ("row", [1, 0, 2])], [[0, 1], [1, 0], [1]])
        hall = woven(hall, [0, 1])[0]
        self.assertEqual([missing(hall, walker) for walker in range(3)], [[1], [0, 2], []])

    def test_alone(self):
        hall = woven(begun([("row", [0]), ("count", [1])], [[0], [1]]), [0, 1])[0]
        self.assertEqual([missing(hall, 0), missing(hall, 1)], [[], []])

    def test_no_walker(self):
        hall = begun([("count", [0, 1]), ("row", [2])], [[0], [], [1]])
        for each in [hall, woven(hall, [0, 2])[0], rested(hall)[0]]:
            for walker in NOBODY:
                with self.subTest(walker=walker):
                    self.assertEqual(helper.kinds_raised(missing, each, walker), [NoWalker])

    def test_what_is_given_is_the_askers_own(self):
        hall = woven(begun([("row", [2, 0, 1])], [[0], [0], [0]]), [0])[0]
        given = missing(hall, 0)
        self.assertIs(list, given.__class__)
        given.pop()
        missing(hall, 1).append(0)
        self.assertEqual([missing(hall, 0), missing(hall, 1)], [[2, 1], []])
        kept = missing(hall, 0)
        rested(hall)
        self.assertEqual(kept, [2, 1])


class Chain(unittest.TestCase):
    def rest(self, gates, rows):
        hall = rested(begun(gates, rows))[0]
        told = chain(hall)
        self.assertIs(list, told.__class__)
        self.assertEqual(chain(rested(begun(helper.of_other_kind(gates), rows))[0]), told)
        return told

    def test_all_have_ended(self):
        self.assertEqual(self.rest([("count", [0])], [[]]), [])
        self.assertEqual(self.rest([("count", [0, 1]), ("row", [1])], [[0, 0], [0, 1, 0]]), [])

    def test_for_one_that_has_ended(self):
        self.assertEqual(self.rest([("count", [0, 1])], [[0], []]), [0, 1])
        self.assertEqual(self.rest([("row", [1, 0])], [[0, 0], [0]]), [0, 1])
        self.assertEqual(self.rest([("count", [0, 1])], [[], [0]]), [1, 0])
        self.assertEqual(self.rest([("count", [2, 1]), ("row", [3, 1])], [[], [0], [], [1]]), [1, 2])

    def test_the_first_one_by_places(self):
        self.assertEqual(self.rest([("count", [3, 0, 2, 1])], [[0], [], [], []]), [0, 3])
        self.assertEqual(self.rest([("count", [0, 2, 1, 3])], [[0], [], [], []]), [0, 2])
        self.assertEqual(self.rest([("row", [3, 2, 1, 0])], [[0], [], [], [0]]), [0, 2])

    def test_in_a_circle(self):
        self.assertEqual(self.rest([("count", [0, 1]), ("row", [0, 1])], [[0, 1], [1, 0]]), [0, 1])
        gates = [("count", [0, 1]), ("count", [1, 2]), ("row", [2, 0])]
        self.assertEqual(self.rest(gates, [[0, 2], [1, 0], [2, 1]]), [0, 1, 2])
        self.assertEqual(self.rest(gates, [[2, 0], [0, 1], [1, 2]]), [0, 2, 1])

    def test_into_a_circle(self):
        # 0 waits for 3, which waits for 1, which waits for 2, which waits for 1.
        gates = [("count", [0, 3]), ("row", [3, 1]), ("count", [1, 2]), ("row", [2, 1])]
        self.assertEqual(self.rest(gates, [[0], [2, 3, 1], [3, 2], [1, 0]]), [0, 3, 1, 2])

    def test_through_several_to_one_that_has_ended(self):
        gates = [("count", [0, 2]), ("row", [2, 3]), ("count", [3, 1])]
        self.assertEqual(self.rest(gates, [[0], [], [1, 0], [2, 1]]), [0, 2, 3, 1])

    def test_begins_with_the_least_that_has_not_ended(self):
        gates = [("count", [0]), ("row", [1, 3]), ("count", [2, 3])]
        self.assertEqual(self.rest(gates, [[0], [1, 1], [2], [1]]), [1, 3])
        self.assertEqual(self.rest(gates, [[0], [1], [2], [1]]), [2, 3])

    def test_a_hall_of_which_nobody_has_done_a_step(self):
        self.assertEqual(chain(begun([("count", [0])], [[]])), [])
        self.assertEqual(helper.kinds_raised(chain, begun([("count", [0])], [[0]])), [NoRest])

    def test_no_rest_ahead_of_rest(self):
        gates = [("count", [0, 1]), ("row", [1, 0])]
        hall = begun(gates, [[0, 1], [0, 1, 0]])
        for walker, _, _ in rested(hall)[1]:
            self.assertEqual(helper.kinds_raised(chain, hall), [NoRest])
            hall = woven(hall, [walker])[0]
        self.assertEqual(chain(hall), [1, 0])

    def test_no_rest_where_only_the_last_one_can_go_on(self):
        hall = begun([("count", [0, 2]), ("row", [1])], [[0], [], [0]])
        hall = woven(hall, [0, 0, 1])[0]
        self.assertEqual(helper.kinds_raised(chain, hall), [NoRest])
        self.assertEqual(helper.kinds_raised(chain, woven(hall, [2, 2, 2, 2])[0]), [NoRest])
        self.assertEqual(chain(woven(hall, [2, 2, 2, 2, 0, 0])[0]), [])

    def test_what_is_given_is_the_askers_own(self):
        hall = rested(begun([("count", [0, 1])], [[0], []]))[0]
        given = chain(hall)
        given.append(7)
        self.assertEqual(chain(hall), [0, 1])
        self.assertEqual(given, [0, 1, 7])


class Together(unittest.TestCase):
    def test_chain_by_missing_in_drawn_halls(self):
        longest = 0
        for seed in range(400):
            gates, rows = helper.drawn(random.Random(seed), 12, 15)
            hall = rested(begun(gates, rows))[0]
            ended = [ahead(hall, walker) == (None, "end") for walker in range(len(rows))]
            due = [ended.index(False)] if False in ended else []
            while due and not ended[due[-1]] and missing(hall, due[-1])[0] not in due:
                due.append(missing(hall, due[-1])[0])
            self.assertEqual(chain(hall), due)
            longest = max(longest, len(due))
        self.assertGreater(longest, 4)

    def test_foretold_against_rest(self):
        hall = begun([("row", [0, 1, 2]), ("count", [1]), ("count", [0, 2])], [[0, 2, 0], [0, 1, 1, 0], [0, 0, 2]])
        hall = rested(hall)[0]
        self.assertEqual([sum(passed(hall, walker, gate) for gate in range(3)) for walker in range(3)], [1, 3, 1])


class Interface(unittest.TestCase):
    def test_each_is_defined_in_its_file(self):
        for name in ["foretold", "missing", "chain"]:
            self.assertEqual(getattr(telling, name).__module__, "barrierrow.telling")

    def test_arguments_by_name(self):
        self.assertEqual(foretold(gates=[("count", [0])], rows=[[0]]), [1])
        hall = begun([("count", [0])], [[]])
        self.assertEqual(missing(hall=hall, walker=0), [])
        self.assertEqual(chain(hall=hall), [])


if __name__ == "__main__":
    unittest.main()
