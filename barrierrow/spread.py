"""How what one place knows comes to all places, round by round."""


def rounds(many):
    """The least number of rounds after which 2 to its power is `many` or more."""
    turn = 0
    while (1 << turn) < many:
        turn += 1
    return turn


def partner(place, turn, many):
    """The place to which `place` tells in round `turn`."""
    return (place + (1 << turn)) % many


def way(one, other, many):
    """The rising list of rounds by which what `one` knows comes to `other`."""
    # The distance is below 2 to the power of the number of rounds, so each of its bits is one of the rounds.
    distance = (other - one) % many
    return [turn for turn in range(rounds(many)) if distance >> turn & 1]
