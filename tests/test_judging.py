import copy
import itertools
import random
import unittest

from chance import some_story

from halfask.judging import explains, order_of
from halfask.story import all_after

HUGE = 10 ** 100 - 1


def told_true(works, order):
    """Point 10 once more, sentence by sentence."""
    if any(order.count(place) > 1 or place not in range(len(works)) for place in order):
        return False
    for place, (hand, word, value, begun, ended) in enumerate(works):
        if ended is not None and place not in order:
            return False
        if ended is None and word == "read" and place in order:
            return False
    for ahead, behind in itertools.combinations(order, 2):
        if works[behind][4] is not None and works[behind][4] < works[ahead][3]:
            return False
    for at, place in enumerate(order):
        if works[place][1] == "read":
            writes = [works[other][2] for other in order[:at] if works[other][1] == "write"]
            if works[place][2] != ([0] + writes)[-1]:
                return False
    return True


def some_works(dice, many):
    works = []
    begun = 0
    for place in range(many):
        begun += dice.randint(1, 3)
        word = dice.choice(("write", "read"))
        ended = dice.choice((None, begun + dice.randint(1, 6), begun + dice.randint(1, 6)))
        value = dice.randint(0, 2)
        works.append((dice.randrange(3), word, None if word == "read" and ended is None else value, begun, ended))
    return works


class PlacesTest(unittest.TestCase):
    WORKS = [(0, "write", 7, 0, 1), (1, "read", 7, 2, 3)]

    def test_an_order_that_explains(self):
        self.assertIs(explains(self.WORKS, [0, 1]), True)

    def test_no_works(self):
        self.assertIs(explains([], []), True)
        self.assertIs(explains([], [0]), False)
        self.assertIs(explains([], [-1]), False)

    def test_each_place_stands_there_once_at_most(self):
        for order in ([0, 0, 1], [0, 1, 1], [0, 1, 0, 1]):
            self.assertIs(explains(self.WORKS, order), False)
        # Twice the same write, that hasn't ended, would change nothing for the read.
        works = [(0, "write", 7, 0, None), (1, "read", 7, 2, 3)]
        self.assertIs(explains(works, [0, 1]), True)
        self.assertIs(explains(works, [0, 0, 1]), False)
        self.assertIs(explains(works, [0, 1, 0]), False)

    def test_numbers_that_are_no_places(self):
        for order in ([0, 1, 2], [2, 0, 1], [0, -1], [-2, -1], [-2, 1], [0, 1, -1], [0, 1, -3], [0, 1, HUGE], [0, -HUGE, 1]):
            self.assertIs(explains(self.WORKS, order), False, order)

    def test_all_works_that_ended_stand_there(self):
        for order in ([], [0], [1]):
            self.assertIs(explains(self.WORKS, order), False)
        self.assertIs(explains([(0, "read", 0, 0, 1)], []), False)
        self.assertIs(explains([(0, "write", 0, 0, 1)], []), False)

    def test_no_read_that_did_not_end_does(self):
        works = [(0, "read", None, 0, None)]
        self.assertIs(explains(works, []), True)
        self.assertIs(explains(works, [0]), False)
        works = [(0, "write", 5, 0, 1), (1, "read", None, 2, None), (1, "read", 5, 3, 4)]
        self.assertIs(explains(works, [0, 2]), True)
        self.assertIs(explains(works, [0, 2, 1]), False)

    def test_a_write_that_did_not_end_may(self):
        works = [(0, "write", 5, 0, None)]
        self.assertIs(explains(works, []), True)
        self.assertIs(explains(works, [0]), True)


class TimeTest(unittest.TestCase):
    def test_no_work_stands_ahead_of_one_that_ended_before_it_began(self):
        works = [(0, "write", 5, 0, 1), (0, "write", 6, 2, 3)]
        self.assertIs(explains(works, [0, 1]), True)
        self.assertIs(explains(works, [1, 0]), False)

    def test_works_of_the_same_time_stand_either_way(self):
        for end in (3, 4, 9):
            works = [(0, "write", 5, 0, end), (1, "write", 6, 3, 5)]
            self.assertIs(explains(works, [0, 1]), True)
            # With an end that is the other one's beginning it didn't end before that.
            self.assertIs(explains(works, [1, 0]), True)
        works = [(0, "write", 5, 0, 2), (1, "write", 6, 3, 5)]
        self.assertIs(explains(works, [1, 0]), False)

    def test_also_where_others_stand_between(self):
        works = [(0, "write", 5, 0, 1), (1, "write", 6, 1, 9), (2, "write", 7, 4, 8)]
        self.assertIs(explains(works, [0, 1, 2]), True)
        self.assertIs(explains(works, [0, 2, 1]), True)
        self.assertIs(explains(works, [1, 0, 2]), True)
        self.assertIs(explains(works, [2, 1, 0]), False)

    def test_a_write_that_did_not_end_keeps_time_too(self):
        works = [(0, "read", 5, 0, 1), (1, "write", 5, 2, None)]
        self.assertIs(explains(works, [1, 0]), False)
        self.assertIs(explains(works, [0, 1]), False)
        works = [(1, "write", 5, 0, None), (0, "read", 0, 2, 3), (0, "read", 5, 4, 5)]
        self.assertIs(explains(works, [1, 0, 2]), True)
        self.assertIs(explains(works, [0, 1, 2]), False)

    def test_works_of_one_hand_may_overlap(self):
        works = [(0, "write", 5, 0, 9), (0, "write", 6, 3, 5)]
        self.assertIs(explains(works, [1, 0]), True)


class ReadsTest(unittest.TestCase):
    def test_nought_where_there_is_no_write_ahead(self):
        self.assertIs(explains([(0, "read", 0, 0, 1)], [0]), True)
        self.assertIs(explains([(0, "read", 1, 0, 1)], [0]), False)

    def test_the_last_write_ahead(self):
        works = [(0, "write", 5, 0, 9), (1, "write", 6, 1, 9), (2, "read", 5, 2, 9)]
        self.assertIs(explains(works, [1, 0, 2]), True)
        self.assertIs(explains(works, [0, 2, 1]), True)
        for order in ([0, 1, 2], [1, 2, 0], [2, 0, 1], [2, 1, 0]):
            self.assertIs(explains(works, order), False, order)

    def test_reads_between_do_not_count_as_writes(self):
        works = [(0, "write", 5, 0, 1), (1, "read", 5, 2, 3), (1, "read", 5, 4, 5), (1, "read", 0, 6, 7)]
        self.assertIs(explains(works[:3], [0, 1, 2]), True)
        self.assertIs(explains(works, [0, 1, 2, 3]), False)

    def test_a_write_of_nought(self):
        works = [(0, "write", 5, 0, 1), (0, "write", 0, 2, 3), (1, "read", 0, 4, 5)]
        self.assertIs(explains(works, [0, 1, 2]), True)
        self.assertIs(explains([(0, "write", 5, 0, 1), (1, "read", 0, 4, 5)], [0, 1]), False)

    def test_a_value_that_was_never_written(self):
        works = [(0, "write", 5, 0, 1), (1, "read", 6, 2, 3)]
        self.assertIs(explains(works, [0, 1]), False)

    def test_the_sign_counts(self):
        works = [(0, "write", HUGE, 0, 1), (1, "read", HUGE, 2, 3)]
        self.assertIs(explains(works, [0, 1]), True)
        for value in (-HUGE, HUGE - 1, HUGE // 10):
            self.assertIs(explains([works[0], (1, "read", value, 2, 3)], [0, 1]), False)


class SentencesTest(unittest.TestCase):
    def test_every_order_of_few_works(self):
        dice = random.Random(5)
        found = {True: 0, False: 0}
        for many in (1, 2, 3, 3, 3, 4, 4, 4, 4):
            for turn in range(12):
                works = some_works(dice, many)
                for length in range(many + 1):
                    for order in itertools.permutations(range(many), length):
                        wanted = told_true(works, list(order))
                        found[wanted] += 1
                        self.assertIs(explains(works, list(order)), wanted, (works, order))
        self.assertGreater(found[True], 100)
        self.assertGreater(found[False], 100)

    def test_orders_of_any_whole_numbers(self):
        dice = random.Random(6)
        for turn in range(2000):
            works = some_works(dice, dice.randint(0, 3))
            order = [dice.randint(-3, 4) for place in range(dice.randint(0, 4))]
            self.assertIs(explains(works, order), told_true(works, order), (works, order))

    def test_two_hundred_works_and_somewhat_more(self):
        for many in (200, 250):
            works = [(place % 9, ("write", "read")[place % 2], place // 2 + 1, 2 * place, 2 * place + 1) for place in range(many)]
            order = list(range(many))
            self.assertIs(explains(works, order), True)
            self.assertIs(explains(works, order[1:] + order[:1]), False)
            self.assertIs(explains(works, order[:-2] + [order[-1], order[-2]]), False)


class OrderTest(unittest.TestCase):
    def test_no_works(self):
        self.assertEqual(order_of([], []), [])

    def test_by_stamps(self):
        works = [(1, "write", 4, 0, 9), (0, "write", 5, 1, 9), (2, "write", 6, 2, 9)]
        self.assertEqual(order_of(works, [(1, 1), (1, 0), (1, 2)]), [1, 0, 2])
        self.assertEqual(order_of(works, [(10, 1), (9, 8), (2, 2)]), [2, 1, 0])

    def test_of_one_stamp_the_write_ahead_of_the_reads_as_they_began(self):
        works = [(1, "read", 4, 0, 20), (2, "read", 4, 1, 9), (0, "write", 4, 2, 8), (3, "read", 4, 3, 7)]
        self.assertEqual(order_of(works, [(1, 0)] * 4), [2, 0, 1, 3])

    def test_reads_of_the_beginning_stand_ahead_of_all_writes(self):
        works = [(0, "write", 4, 0, 9), (1, "read", 0, 1, 9), (2, "read", 4, 2, 9), (3, "read", 0, 3, 9)]
        self.assertEqual(order_of(works, [(1, 0), (0, 0), (1, 0), (0, 0)]), [1, 3, 0, 2])

    def test_a_write_that_has_not_ended_stands_there_just_where_a_read_that_ended_has_its_stamp(self):
        write = (0, "write", 4, 0, None)
        self.assertEqual(order_of([write], [None]), [])
        self.assertEqual(order_of([write], [(1, 0)]), [])
        self.assertEqual(order_of([write, (1, "read", 4, 1, 9)], [(1, 0), (1, 0)]), [0, 1])
        self.assertEqual(order_of([write, (1, "read", 0, 1, 9)], [(1, 0), (0, 0)]), [1])
        self.assertEqual(order_of([write, (1, "read", None, 1, None)], [(1, 0), (1, 0)]), [])
        self.assertEqual(order_of([write, (1, "write", 5, 1, 9)], [(1, 0), (1, 1)]), [1])
        self.assertEqual(order_of([write, (1, "read", None, 1, None)], [None, None]), [])

    def test_reads_that_have_not_ended_do_not_stand_there(self):
        works = [(0, "write", 4, 0, 5), (1, "read", None, 1, None), (2, "read", None, 2, None)]
        self.assertEqual(order_of(works, [(1, 0), (1, 0), None]), [0])

    def test_it_is_a_list(self):
        self.assertIs(type(order_of([], [])), list)
        self.assertIs(type(order_of([(0, "read", 0, 0, 1)], [(0, 0)])), list)

    def test_a_write_given_up_that_a_read_tells(self):
        deeds = [("write", 0, 7), ("pass", 0, 0), ("pass", 0, 1), ("quit", 0), ("read", 1)]
        works, stamps, pairs = all_after(3, 2, deeds)
        self.assertEqual(order_of(works, stamps), [])
        deeds = deeds + [("pass", 1, 1), ("pass", 1, 2), ("pass", 1, 1)]
        works, stamps, pairs = all_after(3, 2, deeds)
        self.assertEqual(works[1], (1, "read", 7, 4, 7))
        self.assertEqual(order_of(works, stamps), [0, 1])
        self.assertIs(explains(works, [0, 1]), True)
        self.assertIs(explains(works, [1]), False)


class HandedInTest(unittest.TestCase):
    def test_works_stamps_and_orders_are_as_they_were(self):
        for seed in range(30):
            count, many, deeds = some_story(seed)
            works, stamps, pairs = all_after(count, many, deeds)
            order = order_of(works, stamps)
            before = copy.deepcopy((works, stamps, order))
            order_of(works, stamps)
            explains(works, order)
            explains(works, order + [0, -1])
            self.assertEqual((works, stamps, order), before)


if __name__ == "__main__":
    unittest.main()
