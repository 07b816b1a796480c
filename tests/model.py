"""A second telling of the document's points 2 to 9 and 13, for the tests to compare with.

It shares nothing with the package, and looks all up anew where the package keeps it.
"""


class Refused(Exception):
    pass


class Model:
    def __init__(self, count, many):
        self.count = count
        self.many = many
        self.kept = {keeper: ((0, 0), 0) for keeper in range(count)}
        self.up = {keeper: True for keeper in range(count)}
        self.row = []
        self.works = []
        self.rounds = 0
        self.time = -1

    # -- looking up

    def need_hand(self, hand):
        if hand not in range(self.many):
            raise Refused("no hand")

    def need_keeper(self, keeper):
        if keeper not in range(self.count):
            raise Refused("no keeper")

    def work_at_hand(self, hand):
        for work in self.works:
            if work["hand"] == hand and work["ended"] is None and not work["given up"]:
                return work
        return None

    def need_work(self, hand):
        self.need_hand(hand)
        work = self.work_at_hand(hand)
        if work is None:
            raise Refused("idle")
        return work

    # -- works and letters

    def begin(self, hand, word, value):
        self.need_hand(hand)
        if self.work_at_hand(hand) is not None:
            raise Refused("busy")
        work = {"hand": hand, "word": word, "value": value, "begun": self.time, "ended": None, "given up": False}
        work.update({"place": len(self.works), "pair": None})
        self.works.append(work)
        self.begin_round(work)
        return work["place"]

    def begin_round(self, work):
        self.rounds += 1
        work["round"] = self.rounds
        work["told"] = []
        self.post(work, range(self.count))

    def post(self, work, keepers):
        for keeper in keepers:
            self.row.append({"from": "hand", "hand": work["hand"], "keeper": keeper, "round": work["round"],
                             "keep": work["pair"]})

    def come(self, place, stays=False):
        letter = self.row[place]
        self.row = [other for at, other in enumerate(self.row) if at != place or stays]
        if letter["from"] == "keeper":
            return self.come_to_hand(letter)
        keeper = letter["keeper"]
        if self.up[keeper]:
            answer = dict(letter)
            answer["from"] = "keeper"
            answer["told"] = self.kept[keeper]
            if letter["keep"] is not None:
                self.kept[keeper] = max(letter["keep"], self.kept[keeper], key=lambda pair: pair[0])
            self.row.append(answer)
        return []

    def come_to_hand(self, answer):
        work = self.work_at_hand(answer["hand"])
        if work is None or work["round"] != answer["round"]:
            return []
        work["told"].append((answer["keeper"], answer["told"]))
        last = dict(work["told"])
        if len(last) <= self.count / 2:
            return []
        if work["pair"] is None:
            work["pair"] = self.pair_for(work, list(last.values()))
            self.begin_round(work)
            return []
        work["ended"] = self.time
        if work["word"] == "read":
            work["value"] = work["pair"][1]
        return [(work["place"], work["value"])]

    def pair_for(self, work, told):
        if work["word"] == "read":
            return sorted(told, key=lambda pair: pair[0])[-1]
        own = [other["pair"] for other in self.works
               if other["hand"] == work["hand"] and other["word"] == "write" and other["pair"] is not None]
        turns = sorted(pair[0][0] for pair in told + own)
        return ((turns[-1] + 1, work["hand"]), work["value"])

    # -- deeds

    def answer(self, deed):
        self.time += 1
        try:
            return getattr(self, "do_" + deed[0])(*deed[1:])
        except Refused as refused:
            return str(refused)

    def do_write(self, hand, value):
        return self.begin(hand, "write", value)

    def do_read(self, hand):
        return self.begin(hand, "read", None)

    def do_carry(self, number, stays):
        if not self.row:
            raise Refused("no letter")
        return (self.come(number % len(self.row), stays) or [None])[0]

    def do_pass(self, hand, keeper):
        self.need_hand(hand)
        self.need_keeper(keeper)
        ends = []
        while True:
            places = [place for place, letter in enumerate(self.row)
                      if letter["hand"] == hand and letter["keeper"] == keeper]
            if not places:
                return ends
            ends += self.come(places[0])

    def do_sweep(self):
        ends = []
        while self.row:
            ends += self.come(0)
        return ends

    def do_again(self, hand):
        work = self.need_work(hand)
        answered = dict(work["told"])
        waited_for = [keeper for keeper in range(self.count) if keeper not in answered]
        self.post(work, waited_for)
        return len(waited_for)

    def do_quit(self, hand):
        work = self.need_work(hand)
        work["given up"] = True
        return work["place"]

    def do_stop(self, keeper):
        return self.turn(keeper, False)

    def do_wake(self, keeper):
        return self.turn(keeper, True)

    def turn(self, keeper, is_up):
        self.need_keeper(keeper)
        changes = self.up[keeper] != is_up
        self.up[keeper] = is_up
        return changes

    # -- all after

    def all_after(self):
        works = [tuple(work[part] for part in ("hand", "word", "value", "begun", "ended")) for work in self.works]
        stamps = [None if work["pair"] is None else work["pair"][0] for work in self.works]
        return (works, stamps, [self.kept[keeper] for keeper in range(self.count)])
