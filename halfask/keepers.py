"""A keeper: it keeps one pair and answers the letters of the hands.

A letter to a keeper is a tuple (hand, keeper, number, pair): the number is that
of the hand's round, and the pair the one to keep, None where the keeper is asked
for its own. An answer is such a tuple too: its pair is the one that is told, None
where the keeper says that it was asked to keep one.
"""

from halfask.pairs import BEGINNING


class Keeper:
    def __init__(self):
        self.pair = BEGINNING
        self.is_up = True

    def stop(self):
        changed = self.is_up
        self.is_up = False
        return changed

    def wake(self):
        changed = not self.is_up
        self.is_up = True
        return changed

    def keep(self, pair):
        # Letters come late and twice: an older pair must not drive out a newer one.
        if pair[0] > self.pair[0]:
            self.pair = pair

    def answer_to(self, letter):
        # None is no answer at all: a letter to a keeper that has stopped is lost.
        if not self.is_up:
            return None
        pair = letter[3]
        if pair is None:
            return letter[:3] + (self.pair,)
        self.keep(pair)
        return letter[:3] + (None,)
