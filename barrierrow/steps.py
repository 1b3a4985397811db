"""Steps: what a walker does next, how it is told, and the hall behind it."""

from barrierrow.halls import COUNT, Hall, ahead, passed
from barrierrow.spread import partner, rounds


def idle(hall, walker):
    """Whether the walker's next step would be told as "wait" or "end"."""
    gate, _ = ahead(hall, walker)
    return gate is None or in_vain(hall, walker)


def at_rest(hall):
    """Whether all walkers are idle."""
    return all([idle(hall, walker) for walker in range(len(hall.rows))])


def stepped(hall, walker):
    """The hall behind the walker's next step, and how this step is told."""
    gate, word = ahead(hall, walker)
    if gate is None:
        return same(hall), (walker, None, "end")
    if in_vain(hall, walker):
        return same(hall), (walker, gate, "wait")
    if hall.gates[gate][0] == COUNT:
        stand, store = behind_counting(hall, walker, gate)
    else:
        stand, store = behind_row(hall, walker, gate)
    stands = with_item(hall.stands, walker, stand)
    stores = with_item(hall.stores, gate, store)
    return Hall(hall.gates, hall.rows, stands, stores), (walker, gate, word)


def same(hall):
    """A hall of its own in which nothing is changed."""
    return Hall(hall.gates, hall.rows, hall.stands, hall.stores)


def with_item(items, at, item):
    """The tuple with another item at one place."""
    return items[:at] + (item,) + items[at + 1:]


def in_vain(hall, walker):
    """Whether the walker's next step is to look or to hear, and would not find its sign."""
    gate, word = ahead(hall, walker)
    visit = this_visit(hall, walker, gate)
    if word == "look":
        return hall.stores[gate][1] != count_sign(visit)
    if word == "hear":
        members = hall.gates[gate][1]
        own = hall.stores[gate][members.index(walker)]
        turn = hall.stands[walker][2]
        return own[box_number(turn, visit, len(members))] != row_sign(visit)
    return False


def this_visit(hall, walker, gate):
    """For which time the walker is at the gate: its k, 1 for the first one."""
    return passed(hall, walker, gate) + 1


def count_sign(visit):
    """A member's sign at a gate that counts."""
    return visit % 2


def row_sign(visit):
    """A member's sign at a gate in rows."""
    return 1 - (visit - 1) // 2 % 2


def box_number(turn, visit, many):
    """Which of a member's boxes at a gate in rows is the one for this round and time."""
    if visit % 2 == 0:
        return turn
    return rounds(many) + turn


def behind_counting(hall, walker, gate):
    """The walker's stand and the gate's boxes behind its next step, at a gate that counts, not in vain."""
    done, word, _ = hall.stands[walker]
    left, side = hall.stores[gate]
    if word == "come" and left == 1:
        return (done, "fill", 0), (0, side)
    if word == "come":
        return (done, "look", 0), (left - 1, side)
    if word == "fill":
        return (done, "turn", 0), (len(hall.gates[gate][1]), side)
    if word == "turn":
        return (done, "pass", 0), (left, count_sign(this_visit(hall, walker, gate)))
    if word == "look":
        return (done, "pass", 0), (left, side)
    return (done + 1, "come", 0), (left, side)


def behind_row(hall, walker, gate):
    """The walker's stand and the gate's boxes behind its next step, at a gate in rows, not in vain."""
    done, word, turn = hall.stands[walker]
    store = hall.stores[gate]
    many = len(store)
    if word == "come":
        return ahead_of_round(done, 0, many), store
    if word == "tell":
        return (done, "hear", turn), behind_tell(hall, walker, gate)
    if word == "hear":
        return ahead_of_round(done, turn + 1, many), store
    return (done + 1, "come", 0), store


def ahead_of_round(done, turn, many):
    """The stand of a walker that goes on to this round, or to "pass" where the last one is behind it."""
    if turn == rounds(many):
        return done, "pass", 0
    return done, "tell", turn


def behind_tell(hall, walker, gate):
    """The boxes of a gate in rows behind the walker's step "tell"."""
    members = hall.gates[gate][1]
    many = len(members)
    store = hall.stores[gate]
    turn = hall.stands[walker][2]
    visit = this_visit(hall, walker, gate)
    place = partner(members.index(walker), turn, many)
    told = with_item(store[place], box_number(turn, visit, many), row_sign(visit))
    return with_item(store, place, told)
