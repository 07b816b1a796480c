"""Stamps and pairs.

A stamp is a tuple (turn, hand), a pair a tuple of a stamp and a value.
Python compares tuples from the left, which is just how stamps are compared:
by their turns, and of the same turn by their hands.
"""

BEGINNING = ((0, 0), 0)


def is_more(count, many):
    # Doubled rather than halved, so that an odd count isn't rounded.
    return many * 2 > count


def newest(pairs):
    best = BEGINNING
    for pair in pairs:
        if pair[0] > best[0]:
            best = pair
    return best


def stamp_after(pairs, own, hand):
    turns = [pair[0][0] for pair in pairs]
    return (max(turns + [own]) + 1, hand)
