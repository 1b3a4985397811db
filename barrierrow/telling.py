"""Telling: what comes of gates and rows, and who waits for whom."""

from barrierrow.errors import NoRest
from barrierrow.halls import ahead, came, check_lists, within
from barrierrow.steps import at_rest


def foretold(gates, rows):
    """How many gates of its row each walker passes in the end."""
    check_lists(gates, rows)
    done = [0] * len(rows)
    going = True
    while going:
        going = False
        for gate, (_, members) in enumerate(gates):
            if all_ahead(rows, done, gate, members):
                going = True
                for member in members:
                    done[member] += 1
    return done


def all_ahead(rows, done, gate, members):
    """Whether the gate is the next one of each member."""
    return all([next_gate(rows[member], done[member]) == gate for member in members])


def next_gate(row, done):
    """The gate of the row behind the first `done` ones; None where there is none."""
    if done == len(row):
        return None
    return row[done]


def missing(hall, walker):
    """The members, by places, that have come less often than the walker to the gate within which it is."""
    gate = within(hall, walker)
    if gate is None:
        return []
    times = came(hall, walker, gate)
    return [member for member in hall.gates[gate][1] if came(hall, member, gate) < times]


def chain(hall):
    """Who waits for whom in a hall at rest, from the least walker that has not ended."""
    if not at_rest(hall):
        raise NoRest("a walker that is not idle can go on")
    links = []
    walker = first_not_ended(hall)
    while walker is not None and walker not in links:
        links.append(walker)
        walker = waited_for(hall, walker)
    return links


def first_not_ended(hall):
    """The least walker that has not ended; None where all have."""
    for walker in range(len(hall.rows)):
        if not has_ended(hall, walker):
            return walker
    return None


def waited_for(hall, walker):
    """The first member that a walker of a hall at rest waits for; None where the walker has ended."""
    if has_ended(hall, walker):
        return None
    return missing(hall, walker)[0]


def has_ended(hall, walker):
    """Whether the walker has passed all gates of its row."""
    gate, _ = ahead(hall, walker)
    return gate is None
