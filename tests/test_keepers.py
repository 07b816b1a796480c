import unittest

from halfask.keepers import Keeper

HUGE = 10 ** 100 - 1
ASK = (1, 4, 7, None)


def keep_letter(pair):
    return (2, 4, 8, pair)


class KeeperTest(unittest.TestCase):
    def test_the_beginning(self):
        keeper = Keeper()
        self.assertEqual(keeper.pair, ((0, 0), 0))
        self.assertIs(keeper.is_up, True)

    def test_it_tells_the_pair_of_the_beginning(self):
        self.assertEqual(Keeper().answer_to(ASK), (1, 4, 7, ((0, 0), 0)))

    def test_to_be_asked_changes_nothing(self):
        keeper = Keeper()
        keeper.answer_to(keep_letter(((3, 1), 5)))
        for turn in range(3):
            self.assertEqual(keeper.answer_to(ASK), (1, 4, 7, ((3, 1), 5)))

    def test_it_keeps_a_pair_with_a_greater_stamp(self):
        greater = [((0, 1), 9), ((1, 0), -9), ((1, 1), 0), ((2, 0), 3), ((10, 0), 3), ((HUGE, 0), -HUGE)]
        keeper = Keeper()
        for pair in greater:
            with self.subTest(pair=pair):
                self.assertEqual(keeper.answer_to(keep_letter(pair)), (2, 4, 8, None))
                self.assertEqual(keeper.answer_to(ASK), (1, 4, 7, pair))

    def test_no_other_stamp_drives_out_what_it_keeps_and_it_says_so_all_the_same(self):
        for pair in [((4, 3), 6), ((4, 2), 99), ((3, 8), 99), ((0, 0), 0), ((0, 0), 99), ((4, 3), 99)]:
            with self.subTest(pair=pair):
                keeper = Keeper()
                keeper.answer_to(keep_letter(((4, 3), 5)))
                self.assertEqual(keeper.answer_to(keep_letter(pair)), (2, 4, 8, None))
                self.assertEqual(keeper.answer_to(ASK), (1, 4, 7, ((4, 3), 5)))

    def test_no_value_with_the_stamp_of_the_beginning_is_kept(self):
        keeper = Keeper()
        self.assertEqual(keeper.answer_to(keep_letter(((0, 0), 5))), (2, 4, 8, None))
        self.assertEqual(keeper.answer_to(ASK), (1, 4, 7, ((0, 0), 0)))

    def test_a_letter_that_comes_twice_is_answered_twice(self):
        keeper = Keeper()
        letter = keep_letter(((4, 3), 5))
        self.assertEqual(keeper.answer_to(letter), (2, 4, 8, None))
        self.assertEqual(keeper.answer_to(letter), (2, 4, 8, None))
        self.assertEqual(keeper.pair, ((4, 3), 5))

    def test_the_answer_bears_the_hand_the_keeper_and_the_round_of_its_letter(self):
        keeper = Keeper()
        for hand in (0, 8):
            for number in (1, 300):
                self.assertEqual(keeper.answer_to((hand, 6, number, None))[:3], (hand, 6, number))
                self.assertEqual(keeper.answer_to((hand, 6, number, ((1, 1), 1)))[:3], (hand, 6, number))

    def test_keepers_keep_apart(self):
        one = Keeper()
        other = Keeper()
        one.answer_to(keep_letter(((1, 1), 1)))
        self.assertEqual(other.pair, ((0, 0), 0))
        self.assertEqual(Keeper().pair, ((0, 0), 0))


class StoppedKeeperTest(unittest.TestCase):
    def test_it_gets_no_letters(self):
        keeper = Keeper()
        keeper.answer_to(keep_letter(((2, 2), 5)))
        keeper.stop()
        self.assertIsNone(keeper.answer_to(ASK))
        self.assertIsNone(keeper.answer_to(keep_letter(((3, 3), 6))))
        self.assertEqual(keeper.pair, ((2, 2), 5))

    def test_what_it_keeps_is_there_when_it_comes_up_again(self):
        keeper = Keeper()
        keeper.answer_to(keep_letter(((2, 2), 5)))
        keeper.stop()
        keeper.answer_to(keep_letter(((3, 3), 6)))
        keeper.wake()
        self.assertEqual(keeper.answer_to(ASK), (1, 4, 7, ((2, 2), 5)))
        keeper.answer_to(keep_letter(((2, 1), 6)))
        self.assertEqual(keeper.answer_to(ASK), (1, 4, 7, ((2, 2), 5)))
        keeper.answer_to(keep_letter(((3, 3), 6)))
        self.assertEqual(keeper.answer_to(ASK), (1, 4, 7, ((3, 3), 6)))

    def test_the_pair_of_the_beginning_stays_too(self):
        keeper = Keeper()
        keeper.stop()
        keeper.wake()
        self.assertEqual(keeper.answer_to(ASK), (1, 4, 7, ((0, 0), 0)))

    def test_stopping_and_waking_tell_whether_they_change_anything(self):
        keeper = Keeper()
        told = [keeper.wake(), keeper.stop(), keeper.stop(), keeper.wake(), keeper.wake(), keeper.stop()]
        self.assertEqual(told, [False, True, False, True, False, True])
        self.assertIs(told[0], False)
        self.assertIs(told[1], True)


if __name__ == "__main__":
    unittest.main()
