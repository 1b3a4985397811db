"""What several tests need: all that can be asked of a hall, refusals, drawn halls, and a program of another making."""

from barrierrow import errors
from barrierrow.halls import ahead, boxes, came, passed
from barrierrow.steps import idle, stepped
from barrierrow.telling import chain, missing

KINDS = [errors.NoHall, errors.NoGate, errors.NoRow, errors.Stranger, errors.NoWalker, errors.NoRest]
WAITS = ("wait", "end")


def kinds_raised(ask, *told):
    """Which classes of the list the refusal is of; [] where nothing is refused, or not by a HallError."""
    try:
        ask(*told)
    except errors.HallError as refusal:
        assert isinstance(refusal, ValueError)
        return [kind for kind in KINDS if isinstance(refusal, kind)]
    return []


def chain_or_none(hall):
    try:
        return chain(hall)
    except errors.NoRest:
        return None


def everything(hall, walkers, gates):
    """All that can be asked of a hall with so many walkers and gates."""
    return (
        [ahead(hall, walker) for walker in range(walkers)],
        [[passed(hall, walker, gate) for gate in range(gates)] for walker in range(walkers)],
        [[came(hall, walker, gate) for gate in range(gates)] for walker in range(walkers)],
        [boxes(hall, gate) for gate in range(gates)],
        [idle(hall, walker) for walker in range(walkers)],
        [missing(hall, walker) for walker in range(walkers)],
        chain_or_none(hall),
        [stepped(hall, walker)[1] for walker in range(walkers)],
    )


def without_waits(told):
    return [each for each in told if each[2] not in WAITS]


def drawn(random, most=12, longest=40):
    """Gates and rows of a drawn hall: some rows wholly at random, some along one order of gates for all."""
    walkers = random.randint(1, most)
    gates = [
        (random.choice(["count", "row"]), random.sample(range(walkers), random.randint(1, walkers)))
        for _ in range(random.randint(1, most))
    ]
    order = [random.randrange(len(gates)) for _ in range(random.randint(0, longest))]
    rows = [[gate for gate in order if walker in gates[gate][1]] for walker in range(walkers)]
    for row in rows:
        if row and random.random() < 0.15:
            del row[random.randrange(len(row))]
        if row and random.random() < 0.1:
            at = random.randrange(len(row))
            row[at:] = random.sample(row[at:], len(row) - at)
    return gates, rows


def of_other_kind(gates):
    """The same gates, those that count in rows and the other way round."""
    return [({"count": "row", "row": "count"}[word], list(members)) for word, members in gates]


class Played:
    """The same hall played in place, each walker a generator that stops ahead of each of its steps."""

    def __init__(self, gates, rows):
        self.gates = gates
        self.rows = rows
        self.left = [len(members) for _, members in gates]
        self.side = [0] * len(gates)
        self.sent = [{} for _ in gates]
        self.passed = [[0] * len(gates) for _ in rows]
        self.came = [[0] * len(gates) for _ in rows]
        self.vain = False
        self.walks = [self.walk(walker) for walker in range(len(rows))]
        self.ahead = [next(walk) for walk in self.walks]

    def step(self, walker):
        if self.ahead[walker] == (None, "end"):
            return walker, None, "end"
        gate, word = self.ahead[walker]
        self.vain = False
        self.ahead[walker] = next(self.walks[walker])
        return walker, gate, "wait" if self.vain else word

    def walk(self, walker):
        for gate in self.rows[walker]:
            yield gate, "come"
            self.came[walker][gate] += 1
            kind, members = self.gates[gate]
            go = self.walk_count if kind == "count" else self.walk_row
            yield from go(gate, members, members.index(walker), self.came[walker][gate])
            yield gate, "pass"
            self.passed[walker][gate] += 1
        yield None, "end"

    def walk_count(self, gate, members, place, k):
        self.left[gate] -= 1
        if self.left[gate] == 0:
            yield gate, "fill"
            self.left[gate] = len(members)
            yield gate, "turn"
            self.side[gate] = k % 2
            return
        yield gate, "look"
        while self.side[gate] != k % 2:
            self.vain = True
            yield gate, "look"

    def walk_row(self, gate, members, place, k):
        sent = self.sent[gate]
        sign = [0, 1, 1, 0][k % 4]
        distance, turn = 1, 0
        while distance < len(members):
            yield gate, "tell"
            sent[(place + distance) % len(members), turn, k % 2] = sign
            yield gate, "hear"
            while sent.get((place, turn, k % 2), 0) != sign:
                self.vain = True
                yield gate, "hear"
            distance, turn = distance * 2, turn + 1

    def boxes(self, gate):
        word, members = self.gates[gate]
        if word == "count":
            return [self.left[gate], self.side[gate]]
        turns = [turn for turn in range(12) if 2 ** turn < len(members)]
        return [
            [self.sent[gate].get((place, turn, odd), 0) for odd in (0, 1) for turn in turns]
            for place in range(len(members))
        ]
