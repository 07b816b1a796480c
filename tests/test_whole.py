"""What the document promises over the whole program: points 6, 10, 11 and 12, over long stories."""

import random
import unittest

from chance import ROUGH, USUAL, some_deed, some_story

from halfask.judging import explains, order_of
from halfask.story import all_after, answers

STORIES = range(300)


def is_more_than_half(many, count):
    return many > count - many


def ended_places(works):
    return [place for place, work in enumerate(works) if work[4] is not None]


def wanted_order(works, stamps):
    """Point 11 once more: stamp by stamp, the write and then the reads."""
    order = []
    for stamp in sorted({stamps[place] for place in ended_places(works)}):
        same = [place for place in range(len(works)) if stamps[place] == stamp]
        reads = [place for place in same if works[place][1] == "read" and works[place][4] is not None]
        writes = [place for place in same if works[place][1] == "write" and (reads or works[place][4] is not None)]
        order += writes + reads
    return order


class StampsTest(unittest.TestCase):
    def test_a_later_work_has_no_smaller_stamp_and_a_later_write_a_greater_one(self):
        looked_at = 0
        for seed in STORIES:
            works, stamps, pairs = all_after(*some_story(seed))
            for earlier in ended_places(works):
                for later in range(len(works)):
                    if stamps[later] is None or works[later][3] <= works[earlier][4]:
                        continue
                    looked_at += 1
                    self.assertGreaterEqual(stamps[later], stamps[earlier], seed)
                    if works[later][1] == "write":
                        self.assertGreater(stamps[later], stamps[earlier], seed)
        self.assertGreater(looked_at, 1000)

    def test_no_two_writes_have_the_same_stamp(self):
        for seed in STORIES:
            works, stamps, pairs = all_after(*some_story(seed))
            of_writes = [stamp for work, stamp in zip(works, stamps) if work[1] == "write" and stamp is not None]
            self.assertEqual(len(set(of_writes)), len(of_writes), seed)

    def test_a_write_has_its_own_hand_in_its_stamp_and_every_pair_comes_of_a_write(self):
        for seed in STORIES:
            works, stamps, pairs = all_after(*some_story(seed))
            written = {((0, 0), 0)}
            for work, stamp in zip(works, stamps):
                if work[1] == "write" and stamp is not None:
                    self.assertEqual(stamp[1], work[0])
                    written.add((stamp, work[2]))
            self.assertLessEqual(set(pairs), written, seed)
            for work, stamp in zip(works, stamps):
                if work[1] == "read" and work[4] is not None:
                    self.assertIn((stamp, work[2]), written)

    def test_a_work_that_ended_has_a_stamp(self):
        for seed in STORIES:
            works, stamps, pairs = all_after(*some_story(seed))
            for place in ended_places(works):
                self.assertIsNotNone(stamps[place])

    def test_from_its_end_on_more_than_half_of_the_keepers_keep_no_less_than_its_stamp(self):
        looked_at = 0
        for seed in range(40):
            count, many, deeds = some_story(seed)
            before = [(0, 0)] * count
            for length in range(1, len(deeds) + 1):
                works, stamps, pairs = all_after(count, many, deeds[:length])
                for place in ended_places(works):
                    looked_at += 1
                    keeping = [pair for pair in pairs if pair[0] >= stamps[place]]
                    self.assertTrue(is_more_than_half(len(keeping), count), (seed, length, place))
                # What a keeper keeps never grows older.
                for old, pair in zip(before, pairs):
                    self.assertLessEqual(old, pair[0])
                before = [pair[0] for pair in pairs]
        self.assertGreater(looked_at, 1000)


class OrderTest(unittest.TestCase):
    def test_the_order_by_stamps_explains_all_works(self):
        ended = told_unended = 0
        for seed in STORIES:
            works, stamps, pairs = all_after(*some_story(seed))
            order = order_of(works, stamps)
            self.assertEqual(order, wanted_order(works, stamps), seed)
            self.assertIs(explains(works, order), True, seed)
            ended += len(ended_places(works))
            told_unended += len(order) - len(ended_places(works))
        # Else the stories would be too tame to show anything.
        self.assertGreater(ended, 1000)
        self.assertGreater(told_unended, 5)

    def test_at_each_moment_of_a_story(self):
        for seed in range(300, 330):
            count, many, deeds = some_story(seed)
            for length in range(len(deeds) + 1):
                works, stamps, pairs = all_after(count, many, deeds[:length])
                self.assertIs(explains(works, order_of(works, stamps)), True, (seed, length))

    def test_a_read_that_told_something_else_is_not_explained(self):
        changed = 0
        for seed in range(60):
            works, stamps, pairs = all_after(*some_story(seed))
            order = order_of(works, stamps)
            for place in ended_places(works):
                if works[place][1] == "read":
                    hand, word, value, begun, ended = works[place]
                    others = works[:place] + [(hand, word, value + 1, begun, ended)] + works[place + 1:]
                    self.assertIs(explains(others, order), False)
                    changed += 1
        self.assertGreater(changed, 100)


class EndingTest(unittest.TestCase):
    def some_stops(self, dice, count, up):
        down = dice.sample(range(count), count - up)
        return [("stop", keeper) if keeper in down else ("wake", keeper) for keeper in range(count)]

    def test_works_end_while_more_than_half_are_up_and_letters_come(self):
        for seed in range(200):
            count, many, deeds = some_story(seed, 60)
            dice = random.Random(seed)
            deeds = deeds + self.some_stops(dice, count, dice.randint(count // 2 + 1, count))
            # At work still are those that are refused as busy; letters that were lost are sent again.
            before = len(all_after(count, many, deeds)[0])
            deeds = deeds + [("write", hand, hand) for hand in range(many)] + [("again", hand) for hand in range(many)]
            deeds = deeds + [("sweep",)]
            told = answers(count, many, deeds + [("again", hand) for hand in range(many)])
            self.assertEqual(told[-many:], ["idle"] * many, seed)
            works = all_after(count, many, deeds)[0]
            for work in works[before:]:
                self.assertEqual(work[4], len(deeds) - 1, seed)

    def test_letters_one_by_one_end_works_too(self):
        for count in range(1, 10):
            deeds = [("stop", keeper) for keeper in range((count - 1) // 2)] + [("write", 0, 3)]
            told = answers(count, 1, deeds + [("carry", 0, False)] * (4 * count))
            self.assertIn((0, 3), told, count)

    def test_no_work_ends_that_was_begun_while_no_more_than_half_answer(self):
        for seed in range(200):
            count, many, deeds = some_story(seed, 60)
            dice = random.Random(seed)
            deeds = deeds + self.some_stops(dice, count, dice.randint(0, count // 2))
            before = len(all_after(count, many, deeds)[0])
            begin = [("quit", hand) for hand in range(many)] + [("write", hand, 5) for hand in range(many)]
            later = [some_deed(dice, count, many, dice.choice((USUAL, ROUGH))) for place in range(60)]
            later = [deed for deed in later if deed[0] not in ("stop", "wake")]
            deeds = deeds + begin + later + [("again", hand) for hand in range(many)] + [("sweep",)]
            works, stamps, pairs = all_after(count, many, deeds)
            self.assertGreaterEqual(len(works), before + many)
            self.assertEqual([work for work in works[before:] if work[4] is not None], [], seed)
            self.assertEqual([stamp for stamp in stamps[before:] if stamp is not None], [], seed)

    def test_exactly_half_up_and_one_more(self):
        for count in (2, 4, 6, 8):
            stops = [("stop", keeper) for keeper in range(count // 2)]
            deeds = stops + [("write", 0, 5), ("sweep",), ("again", 0), ("sweep",)]
            self.assertEqual(answers(count, 1, deeds)[-1], [])
            deeds = deeds + [("wake", 0), ("again", 0), ("sweep",)]
            self.assertEqual(answers(count, 1, deeds)[-2:], [count // 2, [(0, 5)]])


class SameTest(unittest.TestCase):
    def test_the_same_deeds_have_the_same_answers(self):
        for seed in range(20):
            story = some_story(seed)
            self.assertEqual(answers(*story), answers(*story))
            self.assertEqual(all_after(*story), all_after(*story))

    def test_the_answers_of_a_beginning_are_the_beginning_of_the_answers(self):
        for seed in range(20):
            count, many, deeds = some_story(seed)
            self.assertEqual(answers(count, many, deeds[:70]), answers(count, many, deeds)[:70])


if __name__ == "__main__":
    unittest.main()
