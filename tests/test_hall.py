import copy
import unittest

from halfask.errors import Busy, Idle, NoHand, NoKeeper, NoLetter
from halfask.hall import Hall

BEGINNING = ((0, 0), 0)


def asks(hand, keepers, number):
    return [(False, (hand, keeper, number, None)) for keeper in keepers]


def keeps(hand, keepers, number, pair):
    return [(False, (hand, keeper, number, pair)) for keeper in keepers]


def answer(hand, keeper, number, pair):
    return (True, (hand, keeper, number, pair))


def pairs_of(hall):
    return [keeper.pair for keeper in hall.keepers]


def state_of(hall):
    return copy.deepcopy((
        hall.row,
        [vars(hand) for hand in hall.hands],
        [vars(keeper) for keeper in hall.keepers],
    ))


class RowTest(unittest.TestCase):
    def test_nothing_is_under_way_at_the_beginning(self):
        hall = Hall(3, 2)
        self.assertEqual(hall.row, [])
        self.assertEqual(pairs_of(hall), [BEGINNING] * 3)

    def test_a_round_puts_a_letter_to_each_keeper_behind_all_others(self):
        for count in (1, 2, 5, 9):
            hall = Hall(count, 9)
            hall.read(8)
            hall.write(0, 5)
            self.assertEqual(hall.row, asks(8, range(count), 1) + asks(0, range(count), 1))

    def test_an_answer_is_put_behind_all_others(self):
        hall = Hall(3, 2)
        hall.read(1)
        hall.read(0)
        self.assertEqual(hall.carry(1, False), [])
        self.assertEqual(hall.row, asks(1, [0, 2], 1) + asks(0, range(3), 1) + [answer(1, 1, 1, BEGINNING)])

    def test_the_letters_of_the_second_round_are_put_behind_all_others(self):
        hall = Hall(3, 2)
        hall.write(1, 7)
        hall.read(0)
        hall.carry(2, False)
        hall.carry(0, False)
        rest = asks(1, [1], 1) + asks(0, range(3), 1)
        first, second = answer(1, 2, 1, BEGINNING), answer(1, 0, 1, BEGINNING)
        self.assertEqual(hall.row, rest + [first, second])
        self.assertEqual(hall.carry(4, False), [])
        self.assertEqual(hall.row, rest + [second])
        self.assertEqual(hall.carry(4, False), [])
        self.assertEqual(hall.row, rest + keeps(1, range(3), 2, ((1, 1), 7)))

    def test_an_answer_to_a_keep_is_put_behind_all_others_and_ends_the_work(self):
        hall = Hall(1, 1)
        hall.write(0, 7)
        self.assertEqual([hall.carry(0, False), hall.carry(0, False)], [[], []])
        self.assertEqual(hall.row, keeps(0, [0], 2, ((1, 0), 7)))
        self.assertEqual(hall.carry(0, False), [])
        self.assertEqual(hall.row, [answer(0, 0, 2, None)])
        self.assertEqual(pairs_of(hall), [((1, 0), 7)])
        self.assertEqual(hall.carry(0, False), [(0, ((1, 0), 7))])
        self.assertEqual(hall.row, [])

    def test_the_place_of_a_letter_is_the_rest_of_the_number(self):
        for number, keeper in [(0, 0), (4, 4), (5, 0), (8, 3), (10 ** 100 + 2, 2)]:
            hall = Hall(5, 1)
            hall.read(0)
            hall.carry(number, False)
            left = [other for other in range(5) if other != keeper]
            self.assertEqual(hall.row, asks(0, left, 1) + [answer(0, keeper, 1, BEGINNING)])

    def test_a_letter_that_stays_is_under_way_at_its_place(self):
        hall = Hall(3, 1)
        hall.read(0)
        hall.carry(1, True)
        self.assertEqual(hall.row, asks(0, range(3), 1) + [answer(0, 1, 1, BEGINNING)])
        hall.carry(3, True)
        self.assertEqual(hall.row, asks(0, range(3), 1) + [answer(0, 1, 1, BEGINNING)])
        self.assertEqual(hall.hands[0].heard, {1: BEGINNING})

    def test_an_answer_that_stays_ahead_of_a_new_round_keeps_its_place(self):
        hall = Hall(1, 1)
        hall.write(0, 7)
        hall.carry(0, False)
        hall.carry(0, True)
        self.assertEqual(hall.row, [answer(0, 0, 1, BEGINNING)] + keeps(0, [0], 2, ((1, 0), 7)))


class StoppedKeeperTest(unittest.TestCase):
    def test_a_letter_to_one_that_has_stopped_is_lost_when_it_comes(self):
        hall = Hall(3, 1)
        hall.read(0)
        hall.stop_keeper(1)
        self.assertEqual(hall.row, asks(0, range(3), 1))
        self.assertEqual(hall.carry(1, False), [])
        self.assertEqual(hall.row, asks(0, [0, 2], 1))

    def test_a_letter_under_way_comes_if_the_keeper_is_up_again_by_then(self):
        hall = Hall(3, 1)
        hall.stop_keeper(1)
        hall.read(0)
        hall.wake_keeper(1)
        hall.carry(1, False)
        self.assertEqual(hall.row, asks(0, [0, 2], 1) + [answer(0, 1, 1, BEGINNING)])

    def test_a_letter_that_stays_outlives_the_stop(self):
        hall = Hall(3, 1)
        hall.read(0)
        hall.stop_keeper(1)
        hall.carry(1, True)
        self.assertEqual(hall.row, asks(0, range(3), 1))

    def test_its_answers_come_all_the_same(self):
        hall = Hall(1, 1)
        hall.write(0, 7)
        hall.carry(0, False)
        hall.stop_keeper(0)
        hall.carry(0, False)
        self.assertEqual(hall.row, keeps(0, [0], 2, ((1, 0), 7)))

    def test_stopping_and_waking_tell_whether_they_change_anything(self):
        hall = Hall(2, 1)
        told = [hall.wake_keeper(1), hall.stop_keeper(1), hall.stop_keeper(1), hall.stop_keeper(0), hall.wake_keeper(1)]
        self.assertEqual(told, [False, True, False, True, True])


class BetweenTest(unittest.TestCase):
    def test_only_the_letters_between_the_two_come(self):
        hall = Hall(3, 2)
        hall.read(0)
        hall.read(1)
        self.assertEqual(hall.carry_between(1, 0), [])
        self.assertEqual(hall.row, asks(0, range(3), 1) + asks(1, [1, 2], 1))
        self.assertEqual(hall.hands[1].heard, {0: BEGINNING})

    def test_those_that_are_put_under_way_meanwhile_come_too(self):
        hall = Hall(3, 1)
        hall.write(0, 7)
        hall.carry_between(0, 2)
        self.assertEqual(hall.carry_between(0, 1), [])
        self.assertEqual(hall.row, asks(0, [0], 1) + keeps(0, [0, 2], 2, ((1, 0), 7)))
        self.assertEqual(pairs_of(hall), [BEGINNING, ((1, 0), 7), BEGINNING])
        self.assertEqual(hall.carry_between(0, 2), [(0, ((1, 0), 7))])
        self.assertEqual(hall.row, asks(0, [0], 1) + keeps(0, [0], 2, ((1, 0), 7)))

    def test_the_first_one_comes_first(self):
        # The letter to keep stands ahead of the later read's, so the read is told the new pair.
        hall = Hall(1, 1)
        hall.write(0, 7)
        hall.carry(0, False)
        hall.carry(0, False)
        hall.leave(0)
        hall.read(0)
        self.assertEqual(hall.carry_between(0, 0), [(0, ((1, 0), 7))])
        self.assertEqual(hall.row, [])

    def test_letters_to_a_stopped_keeper_are_lost(self):
        hall = Hall(3, 1)
        hall.read(0)
        hall.carry(2, False)
        hall.stop_keeper(2)
        hall.again(0)
        self.assertEqual(hall.carry_between(0, 2), [])
        self.assertEqual(hall.row, asks(0, [0, 1], 1) + asks(0, [0, 1], 1))
        self.assertEqual(hall.hands[0].heard, {2: BEGINNING})

    def test_no_letters_between_them(self):
        hall = Hall(2, 2)
        hall.read(0)
        before = state_of(hall)
        self.assertEqual(hall.carry_between(1, 1), [])
        self.assertEqual(state_of(hall), before)


class SweepTest(unittest.TestCase):
    def test_all_letters_come_the_first_one_first(self):
        hall = Hall(3, 3)
        hall.write(2, 5)
        hall.read(0)
        ends = hall.sweep()
        self.assertEqual([end[0] for end in ends], [2, 0])
        self.assertEqual(ends[0], (2, ((1, 2), 5)))
        self.assertEqual(ends[1], (0, BEGINNING))
        self.assertEqual(hall.row, [])
        self.assertEqual(pairs_of(hall), [((1, 2), 5)] * 3)

    def test_nothing_under_way(self):
        self.assertEqual(Hall(3, 2).sweep(), [])


class AgainTest(unittest.TestCase):
    def test_letters_go_to_those_that_have_not_answered_alone(self):
        hall = Hall(5, 1)
        hall.read(0)
        hall.carry_between(0, 3)
        hall.carry_between(0, 0)
        self.assertEqual(hall.again(0), 3)
        self.assertEqual(hall.row, asks(0, [1, 2, 4], 1) + asks(0, [1, 2, 4], 1))

    def test_one_whose_answer_is_still_under_way_has_not_answered(self):
        hall = Hall(3, 1)
        hall.read(0)
        hall.carry(0, False)
        self.assertEqual(hall.again(0), 3)
        self.assertEqual(hall.row, asks(0, [1, 2], 1) + [answer(0, 0, 1, BEGINNING)] + asks(0, range(3), 1))

    def test_in_the_second_round_the_pair_is_sent_again(self):
        hall = Hall(3, 1)
        hall.write(0, 7)
        hall.carry_between(0, 0)
        hall.carry_between(0, 1)
        self.assertEqual(hall.again(0), 2)
        self.assertEqual(hall.row[-2:], keeps(0, [0, 2], 2, ((1, 0), 7)))


class RefusalTest(unittest.TestCase):
    def refused(self, error, hall, deed):
        before = state_of(hall)
        with self.assertRaises(error):
            deed()
        self.assertEqual(state_of(hall), before)

    def test_a_hand_that_there_is_not(self):
        hall = Hall(3, 2)
        hall.read(0)
        hall.read(1)
        for hand in (2, -1, -2, 9, 10 ** 100):
            self.refused(NoHand, hall, lambda: hall.write(hand, 4))
            self.refused(NoHand, hall, lambda: hall.read(hand))
            self.refused(NoHand, hall, lambda: hall.again(hand))
            self.refused(NoHand, hall, lambda: hall.leave(hand))
            self.refused(NoHand, hall, lambda: hall.carry_between(hand, 0))
            self.refused(NoHand, hall, lambda: hall.carry_between(hand, 3))

    def test_a_keeper_that_there_is_not(self):
        hall = Hall(3, 2)
        hall.read(0)
        for keeper in (3, -1, -3, 9, 10 ** 100):
            self.refused(NoKeeper, hall, lambda: hall.stop_keeper(keeper))
            self.refused(NoKeeper, hall, lambda: hall.wake_keeper(keeper))
            self.refused(NoKeeper, hall, lambda: hall.carry_between(0, keeper))

    def test_busy_idle_and_no_letter(self):
        hall = Hall(3, 2)
        self.refused(NoLetter, hall, lambda: hall.carry(0, False))
        self.refused(NoLetter, hall, lambda: hall.carry(5, True))
        self.refused(Idle, hall, lambda: hall.again(0))
        self.refused(Idle, hall, lambda: hall.leave(1))
        hall.write(0, 4)
        self.refused(Busy, hall, lambda: hall.write(0, 5))
        self.refused(Busy, hall, lambda: hall.read(0))
        self.refused(Idle, hall, lambda: hall.leave(1))


if __name__ == "__main__":
    unittest.main()
