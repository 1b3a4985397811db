"""Points 1, 3, 7 to 11 over the whole program: drawn halls and drawn weaves."""

import copy
import random
import unittest

import helper
from barrierrow.halls import ahead, begun, boxes, came, passed
from barrierrow.steps import idle, stepped
from barrierrow.telling import chain, foretold, missing
from barrierrow.weaving import rested, woven


def all_passed(hall, walker, gates):
    return sum(passed(hall, walker, gate) for gate in range(gates))


def first_not_idle(hall, order):
    for walker in order:
        if not idle(hall, walker):
            return walker
    return None


def rest_by(hall, orders):
    """Rest by steps of walkers that are not idle: each step is done by the first such one of the next order."""
    told = []
    while True:
        walker = first_not_idle(hall, next(orders))
        if walker is None:
            return hall, told
        hall, step = stepped(hall, walker)
        told.append(step)


def always(order):
    while True:
        yield order


def shuffled(chance, many):
    while True:
        yield chance.sample(range(many), many)


def in_spells(chance, many):
    """An order that stays for a while, so that some run far ahead of others."""
    while True:
        order = chance.sample(range(many), many)
        for _ in range(chance.randint(1, 60)):
            yield order


def check_nobody_passed_early(case, hall, gates):
    for gate, (_, members) in enumerate(gates):
        came_least = min(came(hall, member, gate) for member in members)
        case.assertLessEqual(max(passed(hall, member, gate) for member in members), came_least)


class NobodyPassesEarly(unittest.TestCase):
    def test_behind_each_step(self):
        for seed in range(80):
            chance = random.Random(seed)
            gates, rows = helper.drawn(chance, 7, 15)
            orders = in_spells(chance, len(rows))
            hall = begun(gates, rows)
            while (walker := first_not_idle(hall, next(orders))) is not None:
                hall, _ = stepped(hall, walker)
                check_nobody_passed_early(self, hall, gates)

    def test_by_any_steps_at_all(self):
        for seed in range(80):
            chance = random.Random(1000 + seed)
            gates, rows = helper.drawn(chance, 5, 10)
            hall = begun(gates, rows)
            for _ in range(150):
                hall, _ = stepped(hall, chance.randrange(len(rows)))
                check_nobody_passed_early(self, hall, gates)


class EveryWeave(unittest.TestCase):
    """All orders of steps of a few small halls, not only drawn ones."""

    HALLS = [
        ([("count", [0, 1])], [[0, 0], [0, 0]]),
        ([("row", [0, 1])], [[0, 0], [0, 0]]),
        ([("row", [0, 1])], [[0, 0, 0], [0, 0]]),
        ([("count", [0, 1, 2])], [[0, 0], [0], [0, 0]]),
        ([("row", [2, 0, 1])], [[0], [0], [0]]),
        ([("count", [0, 1]), ("row", [1, 0])], [[0, 1, 0], [0, 1]]),
    ]

    def test_each_hall_that_can_be_come_to(self):
        for gates, rows in self.HALLS:
            size = len(rows), len(gates)
            rest = repr(helper.everything(rested(begun(gates, rows))[0], *size))
            # What can be asked tells apart all halls of one beginning, so that each is gone on from once.
            first = begun(gates, rows)
            ways = [(first, 0)]
            seen = {repr(helper.everything(first, *size)): 0}
            at_rest = set()
            while ways:
                hall, count = ways.pop()
                check_nobody_passed_early(self, hall, gates)
                told = [stepped(hall, walker) for walker in range(len(rows))]
                if all(step[2] in helper.WAITS for _, step in told):
                    at_rest.add((repr(helper.everything(hall, *size)), count))
                for behind, step in told:
                    key, steps = repr(helper.everything(behind, *size)), count + (step[2] not in helper.WAITS)
                    if key not in seen:
                        seen[key] = steps
                        ways.append((behind, steps))
                    self.assertEqual(seen[key], steps)
            self.assertEqual(at_rest, {(rest, len(rested(begun(gates, rows))[1]))})


class Rest(unittest.TestCase):
    def test_the_same_for_every_order(self):
        for seed in range(60):
            chance = random.Random(seed)
            gates, rows = helper.drawn(chance, 8, 15)
            many = len(rows)
            size = many, len(gates)
            begin = begun(gates, rows)
            rest, told = rested(begin)
            was = helper.everything(rest, *size)
            for orders in [
                always(range(many)), always(range(many - 1, -1, -1)), shuffled(chance, many), in_spells(chance, many),
            ]:
                other, steps = rest_by(begin, orders)
                self.assertEqual(helper.everything(other, *size), was)
                self.assertEqual(helper.without_waits(steps), steps)
                self.assertEqual(len(steps), len(told))

    def test_the_same_behind_weaves_with_waits(self):
        for seed in range(80):
            chance = random.Random(seed)
            gates, rows = helper.drawn(chance, 8, 12)
            size = len(rows), len(gates)
            begin = begun(gates, rows)
            rest, told = rested(begin)
            for _ in range(3):
                weave = [chance.randrange(len(rows)) for _ in range(chance.randint(0, 200))]
                hall, before = woven(begin, weave)
                other, behind = rested(hall)
                self.assertEqual(helper.everything(other, *size), helper.everything(rest, *size))
                self.assertEqual(len(helper.without_waits(before)) + len(behind), len(told))

    def test_who_has_not_ended_waits_for_a_member_that_has_come_less_often(self):
        waiting = 0
        for seed in range(300):
            gates, rows = helper.drawn(random.Random(seed), 9, 15)
            hall = rested(begun(gates, rows))[0]
            for walker in range(len(rows)):
                self.assertTrue(idle(hall, walker))
                gate, word = ahead(hall, walker)
                if gate is None:
                    self.assertEqual(stepped(hall, walker)[1], (walker, None, "end"))
                    self.assertEqual((word, missing(hall, walker)), ("end", []))
                    continue
                waiting += 1
                self.assertEqual(stepped(hall, walker)[1], (walker, gate, "wait"))
                self.assertIn(word, {"count": ["look"], "row": ["hear"]}[gates[gate][0]])
                self.assertEqual(came(hall, walker, gate), passed(hall, walker, gate) + 1)
                due = [each for each in gates[gate][1] if came(hall, each, gate) < came(hall, walker, gate)]
                self.assertEqual(missing(hall, walker), due)
                self.assertNotEqual(due, [])
        self.assertGreater(waiting, 100)


class WhatComesOfIt(unittest.TestCase):
    def in_the_end(self, gates, rows):
        hall = rested(begun(gates, rows))[0]
        return [all_passed(hall, walker, len(gates)) for walker in range(len(rows))]

    def renumbered(self, gates, rows, order):
        """The same hall with its gates in another order."""
        return [gates[gate] for gate in order], [[order.index(gate) for gate in row] for row in rows]

    def test_foretold_against_plain_going(self):
        halfway = 0
        for seed in range(300):
            gates, rows = helper.drawn(random.Random(seed))
            told = foretold(gates, rows)
            self.assertEqual(told, self.in_the_end(gates, rows))
            halfway += any(0 < done < len(row) for done, row in zip(told, rows))
        self.assertGreater(halfway, 30)

    def test_whichever_gate_is_taken_first(self):
        for seed in range(100):
            chance = random.Random(seed)
            gates, rows = helper.drawn(chance)
            order = chance.sample(range(len(gates)), len(gates))
            self.assertEqual(foretold(*self.renumbered(gates, rows, order)), foretold(gates, rows))

    def test_gates_of_the_other_kind(self):
        for seed in range(100):
            gates, rows = helper.drawn(random.Random(seed), 8, 20)
            other = helper.of_other_kind(gates)
            self.assertEqual(foretold(other, rows), foretold(gates, rows))
            self.assertEqual(self.in_the_end(other, rows), foretold(gates, rows))
            one, two = rested(begun(gates, rows))[0], rested(begun(other, rows))[0]
            self.assertEqual(chain(two), chain(one))
            for walker in range(len(rows)):
                self.assertEqual(missing(two, walker), missing(one, walker))
                self.assertEqual(ahead(two, walker)[0], ahead(one, walker)[0])

    def test_what_was_handed_in_stays(self):
        for seed in range(40):
            chance = random.Random(seed)
            gates, rows = helper.drawn(chance, 6, 10)
            weave = [chance.randrange(len(rows)) for _ in range(60)]
            was = copy.deepcopy((gates, rows, weave))
            foretold(gates, rows)
            hall = rested(woven(begun(gates, rows), weave)[0])[0]
            helper.everything(hall, len(rows), len(gates))
            self.assertEqual((gates, rows, weave), was)


class AgainstAnotherMaking(unittest.TestCase):
    """Step by step beside a program that changes its boxes in place."""

    def beside(self, gates, rows, weave):
        played = helper.Played(gates, rows)
        hall = begun(gates, rows)
        for walker in weave:
            hall, told = stepped(hall, walker)
            self.assertEqual(told, played.step(walker))
            self.assertEqual([ahead(hall, each) for each in range(len(rows))], played.ahead)
            if told[1] is not None:
                gate = told[1]
                self.assertEqual(boxes(hall, gate), played.boxes(gate))
                self.assertEqual(passed(hall, walker, gate), played.passed[walker][gate])
                self.assertEqual(came(hall, walker, gate), played.came[walker][gate])
        for gate in range(len(gates)):
            self.assertEqual(boxes(hall, gate), played.boxes(gate))
            for walker in range(len(rows)):
                self.assertEqual(passed(hall, walker, gate), played.passed[walker][gate])
                self.assertEqual(came(hall, walker, gate), played.came[walker][gate])

    def test_drawn_weaves(self):
        for seed in range(60):
            chance = random.Random(seed)
            gates, rows = helper.drawn(chance, 8, 20)
            self.beside(gates, rows, [chance.randrange(len(rows)) for _ in range(600)])

    def test_unfair_weaves(self):
        for seed in range(60):
            chance = random.Random(2000 + seed)
            gates, rows = helper.drawn(chance, 8, 20)
            weave = []
            while len(weave) < 600:
                weave += [chance.randrange(len(rows))] * chance.randint(1, 25)
            self.beside(gates, rows, weave)

    def test_idle_goes_by_how_the_next_step_would_be_told(self):
        for seed in range(60):
            chance = random.Random(seed)
            gates, rows = helper.drawn(chance, 8, 20)
            hall = begun(gates, rows)
            for _ in range(200):
                for walker in range(len(rows)):
                    self.assertIs(idle(hall, walker), stepped(hall, walker)[1][2] in helper.WAITS)
                hall, _ = stepped(hall, chance.randrange(len(rows)))


if __name__ == "__main__":
    unittest.main()
