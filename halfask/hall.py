"""The hall: the keepers, the hands and the row of the letters under way between them.

Letters and answers are the tuples that halfask/keepers.py tells of. In the row each
stands in a tuple (is_answer, letter): they have the same form, so it must be told which
way one goes.

What carries letters gives back a list of the works that ended thereby, in order, each
as a tuple of its hand's number and its pair.
"""

from halfask.errors import NoHand, NoKeeper, NoLetter
from halfask.hands import Hand
from halfask.keepers import Keeper


class Hall:
    def __init__(self, count, many):
        self.keepers = [Keeper() for number in range(count)]
        self.hands = [Hand(number, count) for number in range(many)]
        self.row = []

    # Asked for nought too: a list counts places below nought from its end.
    def hand_of(self, number):
        if number < 0 or number >= len(self.hands):
            raise NoHand("there is no such hand")
        return self.hands[number]

    def keeper_of(self, number):
        if number < 0 or number >= len(self.keepers):
            raise NoKeeper("there is no such keeper")
        return self.keepers[number]

    def write(self, hand, value):
        self.send(self.hand_of(hand).begin_write(value))

    def read(self, hand):
        self.send(self.hand_of(hand).begin_read())

    def again(self, hand):
        letters = self.hand_of(hand).send_again()
        self.send(letters)
        return len(letters)

    def leave(self, hand):
        self.hand_of(hand).give_up()

    def stop_keeper(self, keeper):
        return self.keeper_of(keeper).stop()

    def wake_keeper(self, keeper):
        return self.keeper_of(keeper).wake()

    def send(self, letters):
        self.row.extend([(False, letter) for letter in letters])

    def carry(self, number, stays):
        if not self.row:
            raise NoLetter("no letter is under way")
        return self.come(number % len(self.row), stays)

    def carry_between(self, hand, keeper):
        self.hand_of(hand)
        self.keeper_of(keeper)
        ends = []
        place = self.first_between(hand, keeper)
        while place is not None:
            ends.extend(self.come(place, False))
            # Looked for anew each time: what has come may have put further letters under way.
            place = self.first_between(hand, keeper)
        return ends

    def first_between(self, hand, keeper):
        for place, entry in enumerate(self.row):
            if entry[1][:2] == (hand, keeper):
                return place
        return None

    def sweep(self):
        ends = []
        while self.row:
            ends.extend(self.come(0, False))
        return ends

    def come(self, place, stays):
        entry = self.row[place]
        # Taken out ahead of what comes of it, which is put behind those that are left.
        if not stays:
            self.row.pop(place)
        if entry[0]:
            return self.come_to_hand(entry[1])
        self.come_to_keeper(entry[1])
        return []

    def come_to_keeper(self, letter):
        answer = self.keepers[letter[1]].answer_to(letter)
        if answer is not None:
            self.row.append((True, answer))

    def come_to_hand(self, answer):
        brought = self.hands[answer[0]].hear(answer)
        self.send(brought[0])
        if brought[1] is None:
            return []
        return [(answer[0], brought[1])]
