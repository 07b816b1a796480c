import copy
import itertools
import unittest

from halfask.pairs import BEGINNING, is_more, newest, stamp_after

HUGE = 10 ** 100 - 1


class IsMoreTest(unittest.TestCase):
    def test_every_count_and_many(self):
        least = {1: 1, 2: 2, 3: 2, 4: 3, 5: 3, 6: 4, 7: 4, 8: 5, 9: 5}
        for count in least:
            for many in range(count + 1):
                with self.subTest(count=count, many=many):
                    self.assertIs(is_more(count, many), many >= least[count])

    def test_exactly_half_is_not_more_but_one_more_is(self):
        for half in range(1, 6):
            self.assertIs(is_more(2 * half, half), False)
            self.assertIs(is_more(2 * half, half + 1), True)

    def test_odd_counts_are_not_rounded(self):
        self.assertIs(is_more(9, 4), False)
        self.assertIs(is_more(9, 5), True)
        self.assertIs(is_more(1, 0), False)
        self.assertIs(is_more(1, 1), True)

    def test_numbers_of_a_hundred_figures(self):
        even = 10 ** 99
        self.assertIs(is_more(even, even // 2), False)
        self.assertIs(is_more(even, even // 2 + 1), True)
        self.assertIs(is_more(HUGE, HUGE // 2), False)
        self.assertIs(is_more(HUGE, HUGE // 2 + 1), True)


class NewestTest(unittest.TestCase):
    def test_no_pairs_at_all(self):
        self.assertEqual(newest([]), ((0, 0), 0))

    def test_the_pair_of_the_beginning(self):
        self.assertEqual(BEGINNING, ((0, 0), 0))
        self.assertEqual(newest([((0, 0), 0)]), ((0, 0), 0))

    def test_no_greater_stamp(self):
        self.assertEqual(newest([((0, 0), 5)]), ((0, 0), 0))
        self.assertEqual(newest([((-1, 8), 5), ((0, -1), 6)]), ((0, 0), 0))

    def test_one_pair(self):
        self.assertEqual(newest([((0, 1), -4)]), ((0, 1), -4))
        self.assertEqual(newest([((1, 0), 0)]), ((1, 0), 0))

    def test_the_greater_turn_goes_before_the_greater_hand_and_value(self):
        self.assertEqual(newest([((1, 8), 99), ((2, 0), -99)]), ((2, 0), -99))

    def test_equal_turns_with_different_hands(self):
        self.assertEqual(newest([((3, 2), 1), ((3, 5), -8), ((3, 4), 70)]), ((3, 5), -8))

    def test_turns_are_compared_as_numbers(self):
        self.assertEqual(newest([((9, 0), 1), ((10, 0), 2)]), ((10, 0), 2))

    def test_the_order_of_the_list_is_of_no_account(self):
        pairs = [((0, 0), 0), ((1, 1), 5), ((2, 0), 4), ((2, 3), -1)]
        for row in itertools.permutations(pairs):
            self.assertEqual(newest(list(row)), ((2, 3), -1))

    def test_numbers_of_a_hundred_figures(self):
        pairs = [((HUGE - 1, 8), HUGE), ((HUGE, 0), -HUGE), ((1, 1), 1)]
        self.assertEqual(newest(pairs), ((HUGE, 0), -HUGE))

    def test_two_hundred_pairs(self):
        pairs = [((turn * 77 % 200, 3), turn) for turn in range(200)]
        self.assertEqual(newest(pairs)[0], (199, 3))

    def test_what_is_handed_in_stays_as_it_was(self):
        pairs = [((2, 0), 4), ((0, 0), 0), ((5, 1), 5), ((3, 1), 1)]
        before = copy.deepcopy(pairs)
        newest(pairs)
        self.assertEqual(pairs, before)


class StampAfterTest(unittest.TestCase):
    def test_one_more_than_the_greatest_turn_told(self):
        self.assertEqual(stamp_after([((2, 1), 7), ((4, 0), 8), ((3, 5), 9)], 0, 2), (5, 2))

    def test_one_more_than_the_greatest_turn_of_its_own(self):
        self.assertEqual(stamp_after([((2, 1), 7), ((4, 0), 8)], 6, 3), (7, 3))

    def test_equal_turns_told_and_of_its_own(self):
        self.assertEqual(stamp_after([((4, 8), 7)], 4, 0), (5, 0))

    def test_equal_turns_with_different_hands(self):
        self.assertEqual(stamp_after([((4, 8), 7), ((4, 1), 6)], 0, 2), (5, 2))

    def test_no_pairs_at_all(self):
        self.assertEqual(stamp_after([], 0, 0), (1, 0))
        self.assertEqual(stamp_after([], 11, 8), (12, 8))

    def test_the_pair_of_the_beginning_alone(self):
        self.assertEqual(stamp_after([((0, 0), 0)], 0, 4), (1, 4))

    def test_values_and_hands_do_not_count_as_turns(self):
        self.assertEqual(stamp_after([((1, 8), 500)], 0, 6), (2, 6))

    def test_numbers_of_a_hundred_figures(self):
        self.assertEqual(stamp_after([((HUGE, 1), HUGE), ((1, 1), 0)], 3, 1), (10 ** 100, 1))
        self.assertEqual(stamp_after([((3, 1), -HUGE)], HUGE, 1), (10 ** 100, 1))

    def test_it_is_greater_than_all_that_was_told(self):
        pairs = [((turn, hand), 0) for turn in range(4) for hand in range(9)]
        for own in range(6):
            stamp = stamp_after(pairs, own, 0)
            self.assertEqual(newest(pairs + [(stamp, 1)]), (stamp, 1))

    def test_what_is_handed_in_stays_as_it_was(self):
        pairs = [((2, 0), 4), ((5, 1), 5), ((3, 1), 1)]
        before = copy.deepcopy(pairs)
        stamp_after(pairs, 9, 1)
        self.assertEqual(pairs, before)


if __name__ == "__main__":
    unittest.main()
