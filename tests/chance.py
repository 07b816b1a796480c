"""Long stories by chance, the same ones in each run, for the tests that look at many."""

import random

HUGE = 10 ** 100 - 1
WORDS = ("write", "read", "carry", "pass", "sweep", "again", "quit", "stop", "wake")
# Few sweeps and many letters one by one: so that works overlap, and letters grow old.
USUAL = (6, 6, 40, 8, 1, 4, 3, 3, 4)
ROUGH = (6, 6, 60, 3, 0, 8, 6, 6, 6)
QUIET = (6, 6, 20, 25, 3, 2, 1, 1, 2)


def some_value(dice):
    return dice.choice((0, 1, -1, 7, 7, -7, dice.randint(-50, 50), HUGE, -HUGE, dice.randint(-HUGE, HUGE)))


def some_number(dice, many):
    """Mostly one that there is; now and then one below nought, or the first one beyond."""
    return dice.randint(-1, many) if dice.random() < 0.1 else dice.randrange(many)


def some_deed(dice, count, many, weights):
    word = dice.choices(WORDS, weights)[0]
    if word == "write":
        return (word, some_number(dice, many), some_value(dice))
    if word in ("read", "again", "quit"):
        return (word, some_number(dice, many))
    if word == "carry":
        return (word, dice.choice((0, 0, dice.randrange(40), dice.randint(0, HUGE))), dice.random() < 0.15)
    if word == "pass":
        return (word, some_number(dice, many), some_number(dice, count))
    if word in ("stop", "wake"):
        return (word, some_number(dice, count))
    return (word,)


def some_story(seed, length=150):
    """A tuple (count, many, deeds)."""
    dice = random.Random(seed)
    count = dice.randint(1, 9)
    many = dice.randint(1, 9)
    weights = dice.choice((USUAL, ROUGH, QUIET))
    return (count, many, [some_deed(dice, count, many, weights) for place in range(length)])
