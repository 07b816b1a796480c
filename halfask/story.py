"""Stories: deeds done one after the other in a hall, each with its answer."""

from halfask.errors import Busy, Idle, NoHand, NoKeeper, NoLetter
from halfask.hall import Hall


class Work:
    def __init__(self, hand, word, value, begun):
        self.hand = hand
        self.word = word
        self.value = value
        self.begun = begun
        self.ended = None
        self.stamp = None

    def told(self):
        return (self.hand, self.word, self.value, self.begun, self.ended)


class Story:
    def __init__(self, count, many):
        self.hall = Hall(count, many)
        self.works = []
        # For each hand the place of the work that it began last.
        self.last_places = {}
        self.deeds_done = 0

    def answer(self, deed):
        told = self.done_or_refused(deed)
        self.note_stamps()
        self.deeds_done = self.deeds_done + 1
        return told

    def done_or_refused(self, deed):
        try:
            return self.done(deed)
        except NoHand:
            return "no hand"
        except NoKeeper:
            return "no keeper"
        except NoLetter:
            return "no letter"
        except Busy:
            return "busy"
        except Idle:
            return "idle"

    # The hall is asked first in each, so that a refusal leaves all as it was.
    def done(self, deed):
        word = deed[0]
        if word == "write":
            self.hall.write(deed[1], deed[2])
            return self.note_work(deed[1], word, deed[2])
        if word == "read":
            self.hall.read(deed[1])
            return self.note_work(deed[1], word, None)
        if word == "carry":
            ends = self.note_ends(self.hall.carry(deed[1], deed[2]))
            return ends[0] if ends else None
        if word == "pass":
            return self.note_ends(self.hall.carry_between(deed[1], deed[2]))
        if word == "sweep":
            return self.note_ends(self.hall.sweep())
        if word == "again":
            return self.hall.again(deed[1])
        if word == "quit":
            self.hall.leave(deed[1])
            return self.last_places[deed[1]]
        if word == "stop":
            return self.hall.stop_keeper(deed[1])
        return self.hall.wake_keeper(deed[1])

    def note_work(self, hand, word, value):
        place = len(self.works)
        self.works.append(Work(hand, word, value, self.deeds_done))
        self.last_places[hand] = place
        return place

    def note_ends(self, ends):
        return [self.note_end(end[0], end[1]) for end in ends]

    def note_end(self, hand, pair):
        place = self.last_places[hand]
        work = self.works[place]
        # A write's pair holds its own value, so this changes that of a read alone.
        work.value = pair[1]
        work.ended = self.deeds_done
        return (place, work.value)

    # A hand keeps the pair of its last work until it begins another one, so to look behind each deed is enough.
    def note_stamps(self):
        for hand, place in self.last_places.items():
            pair = self.hall.hands[hand].pair
            if pair is not None:
                work = self.works[place]
                work.stamp = pair[0]


def answers(count, many, deeds):
    story = Story(count, many)
    return [story.answer(deed) for deed in deeds]


def all_after(count, many, deeds):
    story = Story(count, many)
    for deed in deeds:
        story.answer(deed)
    works = [work.told() for work in story.works]
    stamps = [work.stamp for work in story.works]
    pairs = [keeper.pair for keeper in story.hall.keepers]
    return (works, stamps, pairs)
