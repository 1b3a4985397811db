"""Points 7 and 8: many steps in the order of a list, and how rest is come to."""

import random
import unittest

import helper
from barrierrow import weaving
from barrierrow.errors import NoWalker
from barrierrow.halls import Hall, ahead, begun
from barrierrow.steps import idle, stepped
from barrierrow.weaving import rested, woven

NOBODY = [-1, -2, -3, -100, -10 ** 30, 3, 4, 12, 13, 1000, 10 ** 30]


def hall_of_three():
    return begun([("count", [0, 1]), ("row", [1, 2, 0]), ("row", [2])], [[0, 1], [1, 0], [2, 1]])


class Woven(unittest.TestCase):
    def test_an_empty_list(self):
        for hall in [hall_of_three(), woven(hall_of_three(), [0, 1, 2, 2])[0]]:
            behind, told = woven(hall, [])
            self.assertEqual(told, [])
            self.assertEqual(helper.everything(behind, 3, 3), helper.everything(hall, 3, 3))

    def test_what_is_given(self):
        for weave in [[], [0], [2, 2, 2, 0]]:
            pair = woven(hall_of_three(), weave)
            self.assertIs(tuple, pair.__class__)
            self.assertEqual([part.__class__ for part in pair], [Hall, list])
            self.assertEqual({each.__class__ for each in pair[1]} - {tuple}, set())

    def test_written_out(self):
        hall = begun([("count", [0, 1]), ("row", [0])], [[0, 1], [0], []])
        behind, told = woven(hall, [2, 1, 1, 0, 1, 0, 0, 1, 0, 0, 0, 0, 1, 1])
        self.assertEqual(told, [
            (2, None, "end"), (1, 0, "come"), (1, 0, "wait"), (0, 0, "come"), (1, 0, "wait"), (0, 0, "fill"),
            (0, 0, "turn"), (1, 0, "look"), (0, 0, "pass"), (0, 1, "come"), (0, 1, "pass"), (0, None, "end"),
            (1, 0, "pass"), (1, None, "end"),
        ])
        self.assertEqual([ahead(behind, walker) for walker in range(3)], [(None, "end")] * 3)

    def test_as_step_by_step(self):
        for seed in range(40):
            chance = random.Random(seed)
            gates, rows = helper.drawn(chance, 6, 10)
            weave = [chance.randrange(len(rows)) for _ in range(chance.randint(0, 150))]
            hall = begun(gates, rows)
            behind, told = woven(hall, weave)
            one_by_one = []
            for walker in weave:
                hall, step = stepped(hall, walker)
                one_by_one.append(step)
            self.assertEqual(told, one_by_one)
            size = len(rows), len(gates)
            self.assertEqual(helper.everything(behind, *size), helper.everything(hall, *size))

    def test_no_walker_wherever_it_stands(self):
        hall = hall_of_three()
        was = helper.everything(hall, 3, 3)
        for nobody in NOBODY:
            for weave in [[nobody], [nobody, 0, 1], [0, nobody, 1], [0, 1, 2, nobody], [0, -1, nobody, 0]]:
                with self.subTest(weave=weave):
                    kept = list(weave)
                    self.assertEqual(helper.kinds_raised(woven, hall, weave), [NoWalker])
                    self.assertEqual(weave, kept)
        self.assertEqual(helper.everything(hall, 3, 3), was)

    def test_no_walker_behind_the_end_of_all(self):
        hall, _ = rested(begun([("row", [0])], [[0]]))
        self.assertEqual(helper.kinds_raised(woven, hall, [0, 0, 1]), [NoWalker])

    def test_the_list_handed_in_stays_and_may_be_changed_afterwards(self):
        weave = [0, 1, 1, 2, 0, 0, 1]
        hall, told = woven(hall_of_three(), weave)
        self.assertEqual(weave, [0, 1, 1, 2, 0, 0, 1])
        was = list(told), helper.everything(hall, 3, 3)
        weave.reverse()
        weave.append(7)
        self.assertEqual((told, helper.everything(hall, 3, 3)), was)
        self.assertEqual(woven(hall_of_three(), [0, 1, 1, 2, 0, 0, 1])[1], was[0])

    def test_the_list_given_may_be_changed_afterwards(self):
        elder = hall_of_three()
        hall, told = woven(elder, [0, 1, 2, 0])
        was = helper.everything(hall, 3, 3)
        kept = list(told)
        told.clear()
        told.append((0, 0, "pass"))
        self.assertEqual(helper.everything(hall, 3, 3), was)
        self.assertEqual(woven(elder, [0, 1, 2, 0])[1], kept)
        woven(elder, [])[1].append(1)
        self.assertEqual(woven(elder, [])[1], [])

    def test_what_was_told_stays_whatever_is_done_later(self):
        hall, told = woven(hall_of_three(), [0, 1, 2, 0])
        kept = list(told)
        woven(hall, [1, 2, 0])
        rested(hall)
        self.assertEqual(told, kept)

    def test_the_elder_hall_stays(self):
        hall = woven(hall_of_three(), [0, 2, 1])[0]
        was = helper.everything(hall, 3, 3)
        woven(hall, [0, 1, 2] * 30)
        rested(hall)
        self.assertEqual(helper.everything(hall, 3, 3), was)


class Rested(unittest.TestCase):
    def test_a_hall_that_rests_already(self):
        waiting = woven(begun([("count", [0, 1]), ("row", [2, 1])], [[0], [], [1]]), [0, 2, 2])[0]
        for hall, size in [
            (begun([("count", [0])], [[], []]), (2, 1)),
            (rested(hall_of_three())[0], (3, 3)),
            (waiting, (3, 2)),
        ]:
            behind, told = rested(hall)
            self.assertEqual(told, [])
            self.assertEqual(helper.everything(behind, *size), helper.everything(hall, *size))

    def test_written_out_round_by_round(self):
        hall, told = rested(begun([("count", [0, 1]), ("row", [2, 0])], [[0, 1], [0], [1]]))
        self.assertEqual(told, [
            (0, 0, "come"), (1, 0, "come"), (2, 1, "come"),
            (1, 0, "fill"), (2, 1, "tell"),
            # In this round 0 is idle still when its turn is, 1 turns behind it.
            (1, 0, "turn"),
            (0, 0, "look"), (1, 0, "pass"),
            (0, 0, "pass"),
            (0, 1, "come"),
            (0, 1, "tell"), (2, 1, "hear"),
            (0, 1, "hear"), (2, 1, "pass"),
            (0, 1, "pass"),
        ])
        self.assertEqual([ahead(hall, walker) for walker in range(3)], [(None, "end")] * 3)

    def test_who_is_idle_when_its_turn_is(self):
        # 1 is idle when the second round begins, and not any more when its turn comes, behind the step of 0.
        hall = woven(begun([("count", [0, 1])], [[0], [0]]), [1, 0, 0])[0]
        self.assertTrue(idle(hall, 1))
        self.assertEqual(rested(hall)[1], [(0, 0, "turn"), (1, 0, "look"), (0, 0, "pass"), (1, 0, "pass")])

    def test_nobody_goes_on_who_waits(self):
        hall, told = rested(begun([("row", [0, 1]), ("count", [1, 0])], [[0], [1]]))
        self.assertEqual(told, [(0, 0, "come"), (1, 1, "come"), (0, 0, "tell")])
        self.assertEqual([ahead(hall, 0), ahead(hall, 1)], [(0, "hear"), (1, "look")])

    def test_what_is_given(self):
        for hall in [hall_of_three(), begun([("row", [0])], [[]])]:
            pair = rested(hall)
            self.assertIs(tuple, pair.__class__)
            self.assertEqual([part.__class__ for part in pair], [Hall, list])

    def test_the_list_given_may_be_changed_afterwards(self):
        elder = hall_of_three()
        hall, told = rested(elder)
        was, kept = helper.everything(hall, 3, 3), list(told)
        told.reverse()
        told.pop()
        self.assertEqual(helper.everything(hall, 3, 3), was)
        self.assertEqual(rested(elder)[1], kept)
        self.assertEqual(rested(hall)[1], [])

    def test_drawn_halls_by_the_words_of_the_document(self):
        for seed in range(60):
            chance = random.Random(seed)
            gates, rows = helper.drawn(chance, 8, 12)
            hall = begun(gates, rows)
            hall = woven(hall, [chance.randrange(len(rows)) for _ in range(chance.randint(0, 40))])[0]
            behind, told = rested(hall)
            due = []
            while not all(idle(hall, walker) for walker in range(len(rows))):
                for walker in range(len(rows)):
                    if not idle(hall, walker):
                        hall, step = stepped(hall, walker)
                        due.append(step)
            self.assertEqual(told, due)
            self.assertEqual(helper.without_waits(told), told)
            size = len(rows), len(gates)
            self.assertEqual(helper.everything(behind, *size), helper.everything(hall, *size))
            self.assertTrue(all(idle(behind, walker) for walker in range(len(rows))))

    def test_the_largest_hall(self):
        everybody = list(range(12))
        for word in ["count", "row"]:
            gates = [(word, everybody)] * 12
            hall, told = rested(begun(gates, [[at % 12 for at in range(40)]] * 12))
            self.assertEqual([ahead(hall, walker) for walker in everybody], [(None, "end")] * 12)
            # Each time at a gate that counts: come, look, pass of each, and fill and turn in place of one look.
            self.assertEqual(len(told), 40 * {"count": 3 * 12 + 1, "row": (2 + 2 * 4) * 12}[word])


class Interface(unittest.TestCase):
    def test_each_is_defined_in_its_file(self):
        for name in ["woven", "rested"]:
            self.assertEqual(getattr(weaving, name).__module__, "barrierrow.weaving")

    def test_arguments_by_name(self):
        hall = begun([("count", [0])], [[]])
        self.assertEqual(woven(hall=hall, weave=[0])[1], [(0, None, "end")])
        self.assertEqual(rested(hall=hall)[1], [])


if __name__ == "__main__":
    unittest.main()
