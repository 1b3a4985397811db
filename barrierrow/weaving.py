"""Weaving: many steps, one behind another."""

from barrierrow.steps import at_rest, idle, stepped


def woven(hall, weave):
    """The hall behind one step of each walker of the list, in its order, and how these steps are told."""
    told = []
    for walker in weave:
        hall, step = stepped(hall, walker)
        told.append(step)
    return hall, told


def rested(hall):
    """The hall at rest, come to by steps from walker 0 to the last, again and again, and how these are told."""
    told = []
    many = len(hall.rows)
    while not at_rest(hall):
        for walker in range(many):
            if not idle(hall, walker):
                hall, step = stepped(hall, walker)
                told.append(step)
    return hall, told
