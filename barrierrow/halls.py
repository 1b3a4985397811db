"""Halls: the gates, the walkers' rows, how far each walker is, and what lies in the boxes."""

from barrierrow.errors import NoGate, NoHall, NoRow, NoWalker, Stranger
from barrierrow.spread import rounds

MOST_WALKERS = 12
MOST_GATES = 12
LONGEST_ROW = 40
COUNT = "count"
WORDS = ("count", "row")

# Ahead of the first gate of its row; the word has no meaning behind the last one.
START = (0, "come", 0)


class Hall:
    """What is so between two steps, in tuples throughout: halls may share what a step leaves alone.

    gates:  for each gate its word and the tuple of its members
    rows:   for each walker the tuple of its gates
    stands: for each walker how many gates of its row it has passed, the word of its next step,
            and the round of that step where it is "tell" or "hear", else 0
    stores: for each gate its boxes: (left, side), or a tuple of boxes for each member
    """

    def __init__(self, gates, rows, stands, stores):
        self.gates = gates
        self.rows = rows
        self.stands = stands
        self.stores = stores


def begun(gates, rows):
    """A hall in which nobody has done a step."""
    check_lists(gates, rows)
    return Hall(
        tuple([(word, tuple(members)) for word, members in gates]),
        tuple([tuple(row) for row in rows]),
        (START,) * len(rows),
        tuple([first_boxes(word, len(members)) for word, members in gates]),
    )


def check_lists(gates, rows):
    """Refuse the lists of which no hall can be begun, by what is due first."""
    if not 1 <= len(rows) <= MOST_WALKERS:
        raise NoHall(f"a hall has 1 to {MOST_WALKERS} walkers, not {len(rows)}")
    if not 1 <= len(gates) <= MOST_GATES:
        raise NoHall(f"a hall has 1 to {MOST_GATES} gates, not {len(gates)}")
    for word, members in gates:
        check_gate(word, members, len(rows))
    for walker, row in enumerate(rows):
        check_row(gates, walker, row)


def check_gate(word, members, walkers):
    """Refuse what is no gate where there are so many walkers."""
    if word not in WORDS:
        raise NoGate("a gate's word is another text")
    if len(members) == 0:
        raise NoGate("a gate has no members")
    if any([member not in range(walkers) for member in members]):
        raise NoGate("a gate has a member that is no walker")
    if len(set(members)) < len(members):
        raise NoGate("a gate has a member twice")


def check_row(gates, walker, row):
    """Refuse what cannot be this walker's row, by what is due first."""
    if len(row) > LONGEST_ROW:
        raise NoRow(f"the row of walker {walker} has more than {LONGEST_ROW} numbers")
    for gate in row:
        if gate not in range(len(gates)):
            raise NoRow(f"the row of walker {walker} names {gate}, which is no gate")
        if walker not in gates[gate][1]:
            raise Stranger(f"walker {walker} is no member of gate {gate}")


def first_boxes(word, many):
    """What lies in the boxes of a gate with so many members to which nobody has come."""
    if word == COUNT:
        return (many, 0)
    return ((0,) * (2 * rounds(many)),) * many


def need_walker(hall, walker):
    """Refuse a number that no walker of the hall has."""
    if walker not in range(len(hall.rows)):
        raise NoWalker(f"there is no walker {walker}")


def need_gate(hall, gate):
    """Refuse a number that no gate of the hall has."""
    if gate not in range(len(hall.gates)):
        raise NoGate(f"there is no gate {gate}")


def passed(hall, walker, gate):
    """How often the walker has passed the gate."""
    need_walker(hall, walker)
    need_gate(hall, gate)
    done = hall.stands[walker][0]
    return hall.rows[walker][:done].count(gate)


def came(hall, walker, gate):
    """How often the walker has come to the gate."""
    times = passed(hall, walker, gate)
    if within(hall, walker) == gate:
        times += 1
    return times


def within(hall, walker):
    """The gate to which the walker has come and that it has not passed yet; None where there is none."""
    gate, word = ahead(hall, walker)
    if word == "come":
        return None
    return gate


def boxes(hall, gate):
    """What lies in the boxes of the gate, in lists of the asker's own."""
    need_gate(hall, gate)
    store = hall.stores[gate]
    if hall.gates[gate][0] == COUNT:
        return list(store)
    return [list(own) for own in store]


def ahead(hall, walker):
    """The gate and the word of the walker's next step; (None, "end") of one that has ended."""
    need_walker(hall, walker)
    done, word, _ = hall.stands[walker]
    row = hall.rows[walker]
    if done == len(row):
        return None, "end"
    return row[done], word
