"""A hand: it writes and reads, one work at a time, each in two rounds of letters.

The letters and the answers to them are the tuples that halfask/keepers.py tells of.
A hand sends nothing itself: it gives back the letters that are to be sent.
"""

from halfask.errors import Busy, Idle
from halfask.pairs import is_more, newest, stamp_after


class Hand:
    def __init__(self, number, count):
        self.number = number
        self.count = count
        self.at_work = False
        self.value = None
        self.pair = None
        self.round_number = 0
        self.heard = {}
        self.own_turn = 0

    def begin_write(self, value):
        return self.begin(value)

    def begin_read(self):
        return self.begin(None)

    # A value is always a whole number, so None can stand for a read.
    def begin(self, value):
        if self.at_work:
            raise Busy("the hand is at work already")
        self.at_work = True
        self.value = value
        return self.begin_round(None)

    # No pair is chosen before the second round, so None stands for the first one.
    def begin_round(self, pair):
        # The number is never set back: answers of earlier rounds, of earlier works too, must not pass for this one's.
        self.round_number = self.round_number + 1
        self.pair = pair
        self.heard = {}
        return self.letters()

    def letters(self):
        waited_for = [keeper for keeper in range(self.count) if keeper not in self.heard]
        return [(self.number, keeper, self.round_number, self.pair) for keeper in waited_for]

    def send_again(self):
        self.refuse_idle()
        return self.letters()

    def give_up(self):
        self.refuse_idle()
        self.at_work = False

    def refuse_idle(self):
        if not self.at_work:
            raise Idle("the hand is not at work")

    # Gives back a tuple: the letters of the round that begins by the answer, none where none does,
    # and the pair of the work that ends by it, None where none does.
    def hear(self, answer):
        if not self.at_work or answer[2] != self.round_number:
            return ([], None)
        self.heard[answer[1]] = answer[3]
        if not is_more(self.count, len(self.heard)):
            return ([], None)
        if self.pair is None:
            return (self.begin_round(self.chosen()), None)
        self.at_work = False
        return ([], self.pair)

    def chosen(self):
        pairs = list(self.heard.values())
        if self.value is None:
            return newest(pairs)
        stamp = stamp_after(pairs, self.own_turn, self.number)
        # Kept from now on and not from the work's end: a write that is given up may have left its stamp with keepers.
        self.own_turn = stamp[0]
        return (stamp, self.value)
