import copy
import random
import unittest

from halfask.errors import Busy, HalfError, Idle
from halfask.hands import Hand
from halfask.keepers import Keeper
from halfask.pairs import is_more

HUGE = 10 ** 100 - 1
BEGINNING = ((0, 0), 0)
LEAST = {1: 1, 2: 2, 3: 2, 4: 3, 5: 3, 6: 4, 7: 4, 8: 5, 9: 5}
NOTHING = ([], None)


def asks(hand, keepers, number):
    return [(hand, keeper, number, None) for keeper in keepers]


def keeps(hand, keepers, number, pair):
    return [(hand, keeper, number, pair) for keeper in keepers]


def state_of(hand):
    return copy.deepcopy(vars(hand))


def hear_all(hand, number, told):
    """Answers of the keepers 0, 1, .. in the round; what the last one of them brought."""
    brought = NOTHING
    for keeper, pair in enumerate(told):
        brought = hand.hear((hand.number, keeper, number, pair))
    return brought


def whole_work(hand, keepers, letters):
    """Carries every letter at once; the pair of the work that ended, None for none."""
    row = list(letters)
    ended = None
    while row:
        letter = row.pop(0)
        answer = keepers[letter[1]].answer_to(letter)
        if answer is not None:
            brought = hand.hear(answer)
            row.extend(brought[0])
            ended = ended or brought[1]
    return ended


class RoundsTest(unittest.TestCase):
    def test_the_first_round_asks_all_keepers(self):
        for count in range(1, 10):
            self.assertEqual(Hand(3, count).begin_read(), asks(3, range(count), 1))
            self.assertEqual(Hand(3, count).begin_write(5), asks(3, range(count), 1))

    def test_the_second_round_begins_as_soon_as_more_than_half_have_answered(self):
        for count in LEAST:
            with self.subTest(count=count):
                hand = Hand(2, count)
                hand.begin_write(7)
                for keeper in range(LEAST[count] - 1):
                    self.assertEqual(hand.hear((2, keeper, 1, BEGINNING)), NOTHING)
                brought = hand.hear((2, count - 1, 1, BEGINNING))
                self.assertEqual(brought, (keeps(2, range(count), 2, ((1, 2), 7)), None))

    def test_the_work_ends_as_soon_as_more_than_half_have_answered_again(self):
        for count in LEAST:
            with self.subTest(count=count):
                hand = Hand(2, count)
                hand.begin_write(7)
                hear_all(hand, 1, [BEGINNING] * LEAST[count])
                for keeper in range(LEAST[count] - 1):
                    self.assertEqual(hand.hear((2, keeper, 2, None)), NOTHING)
                    self.assertIs(hand.at_work, True)
                self.assertEqual(hand.hear((2, count - 1, 2, None)), ([], ((1, 2), 7)))
                self.assertIs(hand.at_work, False)

    def test_answers_of_the_first_round_do_not_count_in_the_second(self):
        hand = Hand(0, 5)
        hand.begin_read()
        hear_all(hand, 1, [BEGINNING] * 3)
        for keeper in (3, 4):
            self.assertEqual(hand.hear((0, keeper, 1, BEGINNING)), NOTHING)
        for keeper in (0, 1):
            self.assertEqual(hand.hear((0, keeper, 2, None)), NOTHING)
        self.assertEqual(hand.hear((0, 2, 2, None)), ([], BEGINNING))

    def test_any_of_the_keepers_make_more_than_half(self):
        hand = Hand(0, 5)
        hand.begin_read()
        for keeper in (4, 1):
            self.assertEqual(hand.hear((0, keeper, 1, BEGINNING)), NOTHING)
        self.assertEqual(hand.hear((0, 3, 1, ((2, 1), 8)))[0], keeps(0, range(5), 2, ((2, 1), 8)))

    def test_a_read_sends_its_second_round_even_if_all_told_the_same(self):
        hand = Hand(0, 3)
        hand.begin_read()
        self.assertEqual(hear_all(hand, 1, [((2, 1), 8)] * 2), (keeps(0, range(3), 2, ((2, 1), 8)), None))
        self.assertIs(hand.at_work, True)


class ChoiceTest(unittest.TestCase):
    def chosen(self, hand, number, told):
        letters = hear_all(hand, number, told)[0]
        self.assertEqual(len(letters), hand.count)
        return letters[0][3]

    def test_a_read_chooses_the_greatest_stamp_it_was_told(self):
        cases = [
            ([BEGINNING, BEGINNING, BEGINNING], BEGINNING),
            ([((1, 8), 90), ((2, 0), -5), BEGINNING], ((2, 0), -5)),
            ([((3, 2), 1), ((3, 4), -1), ((3, 3), 50)], ((3, 4), -1)),
            ([((10, 0), 1), ((9, 8), 2), ((9, 1), 3)], ((10, 0), 1)),
            ([BEGINNING, ((HUGE, 1), -HUGE), ((HUGE, 0), HUGE)], ((HUGE, 1), -HUGE)),
        ]
        for told, pair in cases:
            with self.subTest(told=told):
                hand = Hand(1, 5)
                hand.begin_read()
                self.assertEqual(self.chosen(hand, 1, told), pair)

    def test_a_write_chooses_its_own_value_and_one_more_than_the_greatest_turn(self):
        cases = [
            ([BEGINNING, BEGINNING, BEGINNING], 7, ((1, 1), 7)),
            ([((1, 8), 90), ((2, 0), -5), BEGINNING], -7, ((3, 1), -7)),
            ([((3, 2), 1), ((3, 4), -1), ((3, 3), 50)], 0, ((4, 1), 0)),
            ([BEGINNING, ((HUGE, 1), -HUGE), ((HUGE, 0), HUGE)], HUGE, ((10 ** 100, 1), HUGE)),
        ]
        for told, value, pair in cases:
            with self.subTest(told=told):
                hand = Hand(1, 5)
                hand.begin_write(value)
                self.assertEqual(self.chosen(hand, 1, told), pair)

    def test_a_write_of_nought_is_no_read(self):
        hand = Hand(1, 1)
        hand.begin_write(0)
        self.assertEqual(self.chosen(hand, 1, [((4, 2), 9)]), ((5, 1), 0))

    def test_a_read_after_a_write_does_not_write(self):
        hand = Hand(1, 1)
        hand.begin_write(6)
        hear_all(hand, 1, [BEGINNING])
        hear_all(hand, 2, [None])
        hand.begin_read()
        self.assertEqual(self.chosen(hand, 3, [((4, 2), 9)]), ((4, 2), 9))

    def test_a_read_does_not_count_among_the_turns_of_its_own_writes(self):
        hand = Hand(1, 1)
        hand.begin_read()
        hear_all(hand, 1, [((9, 2), 9)])
        hear_all(hand, 2, [None])
        hand.begin_write(3)
        self.assertEqual(self.chosen(hand, 3, [BEGINNING]), ((1, 1), 3))

    def test_a_write_that_ended_counts_among_the_turns(self):
        hand = Hand(0, 3)
        hand.begin_write(6)
        hear_all(hand, 1, [((4, 0), 1)] * 2)
        hear_all(hand, 2, [None] * 2)
        hand.begin_write(7)
        self.assertEqual(self.chosen(hand, 3, [BEGINNING] * 2), ((6, 0), 7))

    def test_answers_that_come_after_the_choice_do_not_change_it(self):
        hand = Hand(0, 3)
        hand.begin_read()
        hear_all(hand, 1, [((1, 1), 4)] * 2)
        self.assertEqual(hand.hear((0, 2, 1, ((9, 1), 8))), NOTHING)
        self.assertEqual(hear_all(hand, 2, [None] * 2), ([], ((1, 1), 4)))


class AnswersTest(unittest.TestCase):
    def test_a_second_answer_of_one_keeper_is_not_one_more(self):
        hand = Hand(0, 3)
        hand.begin_read()
        for turn in range(5):
            self.assertEqual(hand.hear((0, 1, 1, BEGINNING)), NOTHING)
        self.assertEqual(hand.hear((0, 2, 1, BEGINNING))[0], keeps(0, range(3), 2, BEGINNING))
        for turn in range(5):
            self.assertEqual(hand.hear((0, 1, 2, None)), NOTHING)
        self.assertEqual(hand.hear((0, 0, 2, None)), ([], BEGINNING))

    def test_the_last_answer_of_one_keeper_counts_alone(self):
        for first, last in [(((1, 1), 4), ((3, 1), 5)), (((3, 1), 5), ((1, 1), 4))]:
            hand = Hand(0, 3)
            hand.begin_read()
            hand.hear((0, 1, 1, first))
            hand.hear((0, 1, 1, last))
            self.assertEqual(hand.hear((0, 0, 1, BEGINNING))[0], keeps(0, range(3), 2, last))

    def test_the_last_answer_counts_alone_for_the_turn_of_a_write(self):
        hand = Hand(0, 3)
        hand.begin_write(8)
        hand.hear((0, 1, 1, ((7, 1), 5)))
        hand.hear((0, 1, 1, ((2, 1), 4)))
        self.assertEqual(hand.hear((0, 2, 1, BEGINNING))[0], keeps(0, range(3), 2, ((3, 0), 8)))

    def test_each_round_has_a_number_of_its_own(self):
        hand = Hand(0, 1)
        numbers = []
        for turn in range(4):
            letters = hand.begin_read() if turn % 2 else hand.begin_write(turn)
            numbers.append(letters[0][2])
            letters = hand.hear((0, 0, letters[0][2], BEGINNING))[0]
            numbers.append(letters[0][2])
            hand.hear((0, 0, letters[0][2], None))
        for turn in range(4):
            numbers.append(hand.begin_read()[0][2])
            hand.give_up()
        self.assertEqual(len(set(numbers)), len(numbers))

    def test_answers_of_an_earlier_work_count_for_nothing(self):
        hand = Hand(0, 3)
        hand.begin_write(5)
        hear_all(hand, 1, [BEGINNING] * 2)
        hear_all(hand, 2, [None] * 2)
        hand.begin_read()
        before = state_of(hand)
        for keeper in range(3):
            self.assertEqual(hand.hear((0, keeper, 1, ((9, 1), 9))), NOTHING)
            self.assertEqual(hand.hear((0, keeper, 2, None)), NOTHING)
        self.assertEqual(state_of(hand), before)

    def test_answers_of_a_work_given_up_count_for_nothing(self):
        hand = Hand(0, 3)
        hand.begin_write(5)
        hand.give_up()
        for keeper in range(3):
            self.assertEqual(hand.hear((0, keeper, 1, BEGINNING)), NOTHING)
        hand.begin_read()
        for keeper in range(3):
            self.assertEqual(hand.hear((0, keeper, 1, ((9, 1), 9))), NOTHING)
        self.assertEqual(hear_all(hand, 2, [BEGINNING] * 2)[0], keeps(0, range(3), 3, BEGINNING))

    def test_answers_that_come_when_the_work_has_ended_count_for_nothing(self):
        hand = Hand(0, 3)
        hand.begin_write(5)
        hear_all(hand, 1, [BEGINNING] * 2)
        hear_all(hand, 2, [None] * 2)
        before = state_of(hand)
        self.assertEqual(hand.hear((0, 2, 2, None)), NOTHING)
        self.assertEqual(hand.hear((0, 2, 1, BEGINNING)), NOTHING)
        self.assertEqual(state_of(hand), before)

    def test_a_hand_that_never_worked_hears_nothing(self):
        hand = Hand(0, 1)
        self.assertEqual(hand.hear((0, 0, 0, BEGINNING)), NOTHING)
        self.assertEqual(hand.hear((0, 0, 1, BEGINNING)), NOTHING)


class BusyAndIdleTest(unittest.TestCase):
    def refused(self, error, hand, deed):
        before = state_of(hand)
        with self.assertRaises(error):
            deed()
        with self.assertRaises(HalfError):
            deed()
        self.assertEqual(state_of(hand), before)

    def test_a_hand_at_work_begins_no_other_one(self):
        hand = Hand(0, 3)
        hand.begin_write(4)
        self.refused(Busy, hand, lambda: hand.begin_write(5))
        self.refused(Busy, hand, lambda: hand.begin_read())
        hand.hear((0, 0, 1, BEGINNING))
        self.refused(Busy, hand, lambda: hand.begin_read())
        hand.hear((0, 1, 1, BEGINNING))
        self.refused(Busy, hand, lambda: hand.begin_write(5))
        self.assertEqual(hear_all(hand, 2, [None] * 2), ([], ((1, 0), 4)))

    def test_a_hand_at_a_read_begins_no_other_one(self):
        hand = Hand(0, 3)
        hand.begin_read()
        self.refused(Busy, hand, lambda: hand.begin_write(5))
        self.refused(Busy, hand, lambda: hand.begin_read())

    def test_a_hand_that_is_not_at_work_neither_sends_again_nor_gives_up(self):
        hand = Hand(0, 1)
        self.refused(Idle, hand, hand.send_again)
        self.refused(Idle, hand, hand.give_up)
        hand.begin_write(4)
        hand.give_up()
        self.refused(Idle, hand, hand.send_again)
        self.refused(Idle, hand, hand.give_up)
        hand.begin_read()
        hear_all(hand, 2, [BEGINNING])
        hear_all(hand, 3, [None])
        self.refused(Idle, hand, hand.send_again)
        self.refused(Idle, hand, hand.give_up)

    def test_a_hand_may_begin_again_when_its_work_has_ended(self):
        hand = Hand(0, 1)
        hand.begin_write(4)
        hear_all(hand, 1, [BEGINNING])
        hear_all(hand, 2, [None])
        self.assertEqual(hand.begin_read(), asks(0, [0], 3))


class GivingUpTest(unittest.TestCase):
    def test_a_hand_may_begin_another_work(self):
        hand = Hand(0, 3)
        hand.begin_write(4)
        hand.give_up()
        self.assertEqual(hand.begin_read(), asks(0, range(3), 2))
        hear_all(hand, 2, [BEGINNING] * 2)
        hand.give_up()
        self.assertEqual(hand.begin_write(6), asks(0, range(3), 4))

    def test_a_write_given_up_in_its_second_round_counts_among_the_turns(self):
        hand = Hand(0, 3)
        hand.begin_write(4)
        hear_all(hand, 1, [((5, 1), 1)] * 2)
        hand.give_up()
        hand.begin_write(8)
        letters = hear_all(hand, 3, [BEGINNING] * 2)[0]
        self.assertEqual(letters, keeps(0, range(3), 4, ((7, 0), 8)))

    def test_a_write_given_up_in_its_first_round_has_no_turn(self):
        hand = Hand(0, 3)
        hand.begin_write(4)
        hand.hear((0, 0, 1, ((5, 1), 1)))
        hand.give_up()
        hand.begin_write(8)
        letters = hear_all(hand, 2, [BEGINNING] * 2)[0]
        self.assertEqual(letters, keeps(0, range(3), 3, ((1, 0), 8)))

    def test_a_write_given_up_may_come_about_and_be_read(self):
        keepers = [Keeper() for place in range(3)]
        writer = Hand(0, 3)
        reader = Hand(1, 3)
        writer.begin_write(4)
        letters = hear_all(writer, 1, [BEGINNING] * 2)[0]
        writer.give_up()
        self.assertEqual(whole_work(reader, keepers, reader.begin_read()), BEGINNING)
        keepers[0].answer_to(letters[0])
        self.assertEqual(whole_work(reader, keepers, reader.begin_read()), ((1, 0), 4))
        self.assertEqual(whole_work(writer, keepers, writer.begin_write(9)), ((2, 0), 9))

    def test_late_letters_of_a_write_given_up_do_not_undo_the_next_write_of_the_hand(self):
        keepers = [Keeper() for place in range(3)]
        hand = Hand(0, 3)
        hand.begin_write(4)
        late = hear_all(hand, 1, [BEGINNING] * 2)[0]
        hand.give_up()
        self.assertEqual(whole_work(hand, keepers, hand.begin_write(9)), ((2, 0), 9))
        for letter in late:
            self.assertEqual(hand.hear(keepers[letter[1]].answer_to(letter)), NOTHING)
        self.assertEqual([keeper.pair for keeper in keepers], [((2, 0), 9)] * 3)


class SendingAgainTest(unittest.TestCase):
    def test_all_letters_where_none_has_answered(self):
        for count in (1, 2, 9):
            hand = Hand(4, count)
            letters = hand.begin_write(5)
            self.assertEqual(hand.send_again(), letters)
            self.assertEqual(hand.send_again(), asks(4, range(count), 1))

    def test_those_that_have_answered_are_left_out(self):
        hand = Hand(4, 9)
        hand.begin_read()
        for keeper in (7, 2, 7, 0):
            hand.hear((4, keeper, 1, BEGINNING))
        self.assertEqual(hand.send_again(), asks(4, [1, 3, 4, 5, 6, 8], 1))

    def test_the_second_round_is_sent_again_with_its_pair(self):
        hand = Hand(4, 4)
        hand.begin_write(5)
        hear_all(hand, 1, [((2, 8), 1)] * 3)
        self.assertEqual(hand.send_again(), keeps(4, range(4), 2, ((3, 4), 5)))
        hand.hear((4, 2, 2, None))
        self.assertEqual(hand.send_again(), keeps(4, [0, 1, 3], 2, ((3, 4), 5)))

    def test_answers_of_other_rounds_leave_nobody_out(self):
        hand = Hand(4, 3)
        hand.begin_read()
        hear_all(hand, 1, [BEGINNING] * 2)
        hand.hear((4, 2, 1, BEGINNING))
        self.assertEqual(hand.send_again(), keeps(4, range(3), 2, BEGINNING))

    def test_sending_again_changes_nothing(self):
        hand = Hand(4, 3)
        hand.begin_read()
        hand.hear((4, 1, 1, BEGINNING))
        before = state_of(hand)
        hand.send_again()
        self.assertEqual(state_of(hand), before)

    def test_what_was_given_back_is_not_changed_later(self):
        hand = Hand(4, 3)
        letters = hand.begin_write(5)
        before = list(letters)
        hear_all(hand, 1, [BEGINNING] * 2)
        self.assertEqual(letters, before)


class WholeWorksTest(unittest.TestCase):
    def test_write_and_read_with_every_count(self):
        for count in range(1, 10):
            keepers = [Keeper() for place in range(count)]
            writer = Hand(0, count)
            reader = Hand(8, count)
            self.assertEqual(whole_work(reader, keepers, reader.begin_read()), BEGINNING)
            self.assertEqual(whole_work(writer, keepers, writer.begin_write(-HUGE)), ((1, 0), -HUGE))
            self.assertEqual(whole_work(reader, keepers, reader.begin_read()), ((1, 0), -HUGE))
            self.assertEqual(whole_work(reader, keepers, reader.begin_write(HUGE)), ((2, 8), HUGE))
            self.assertEqual(whole_work(writer, keepers, writer.begin_read()), ((2, 8), HUGE))

    def test_works_end_just_where_more_than_half_are_up(self):
        for count in range(1, 10):
            for stopped in range(count + 1):
                with self.subTest(count=count, stopped=stopped):
                    keepers = [Keeper() for place in range(count)]
                    for keeper in keepers[:stopped]:
                        keeper.stop()
                    hand = Hand(0, count)
                    ended = whole_work(hand, keepers, hand.begin_write(3))
                    self.assertEqual(ended is not None, count - stopped >= LEAST[count])

    def test_a_work_goes_on_when_keepers_come_up_and_letters_are_sent_again(self):
        keepers = [Keeper() for place in range(4)]
        hand = Hand(1, 4)
        keepers[0].stop()
        keepers[2].stop()
        self.assertIsNone(whole_work(hand, keepers, hand.begin_write(3)))
        keepers[2].wake()
        again = hand.send_again()
        self.assertEqual(again, asks(1, [0, 2], 1))
        self.assertEqual(whole_work(hand, keepers, again), ((1, 1), 3))
        self.assertEqual([keeper.pair for keeper in keepers], [BEGINNING] + [((1, 1), 3)] * 3)

    def test_a_keeper_that_missed_a_write_is_brought_up_by_a_read(self):
        keepers = [Keeper() for place in range(3)]
        hand = Hand(0, 3)
        keepers[0].stop()
        whole_work(hand, keepers, hand.begin_write(3))
        keepers[0].wake()
        keepers[2].stop()
        self.assertEqual(whole_work(hand, keepers, hand.begin_read()), ((1, 0), 3))
        self.assertEqual(keepers[0].pair, ((1, 0), 3))


class Crowd:
    """Keepers and hands whose letters come late, twice or never, by a seeded source."""

    def __init__(self, seed):
        self.chance = random.Random(seed)
        self.count = self.chance.randint(1, 9)
        self.keepers = [Keeper() for place in range(self.count)]
        self.hands = [Hand(number, self.count) for number in range(self.chance.randint(1, 9))]
        self.to_keepers = []
        self.to_hands = []
        self.began = {}
        self.works = []
        self.stamps = []

    def take(self, row):
        place = self.chance.randrange(len(row))
        return row[place] if self.chance.random() < 0.2 else row.pop(place)

    def work(self, hand, moment):
        if hand.at_work:
            if self.chance.random() < 0.3:
                hand.give_up()
            else:
                self.to_keepers.extend(hand.send_again())
            return
        word = self.chance.choice(["write", "read"])
        self.began[hand.number] = (word, moment)
        letters = hand.begin_write(moment) if word == "write" else hand.begin_read()
        self.to_keepers.extend(letters)

    def bring_to_hand(self, moment):
        answer = self.take(self.to_hands)
        hand = self.hands[answer[0]]
        letters, ended = hand.hear(answer)
        self.to_keepers.extend(letters)
        word, begun = self.began[hand.number]
        if letters and word == "write":
            self.stamps.append(letters[0][3][0])
        if ended is not None:
            self.works.append((word, begun, moment, ended))

    def step(self, moment):
        lot = self.chance.random()
        if lot < 0.1:
            self.work(self.chance.choice(self.hands), moment)
        elif lot < 0.13:
            keeper = self.chance.choice(self.keepers)
            keeper.wake() if self.chance.random() < 0.6 else keeper.stop()
        elif lot < 0.55 and self.to_keepers:
            letter = self.take(self.to_keepers)
            answer = self.keepers[letter[1]].answer_to(letter)
            if answer is not None:
                self.to_hands.append(answer)
        elif self.to_hands:
            self.bring_to_hand(moment)


class CrowdTest(unittest.TestCase):
    def test_stamps_keep_time_and_more_than_half_keep_what_ended(self):
        ended = 0
        for seed in range(40):
            with self.subTest(seed=seed):
                crowd = Crowd(seed)
                for moment in range(1500):
                    crowd.step(moment)
                    self.check_kept(crowd)
                self.check_stamps(crowd)
                ended += len(crowd.works)
        self.assertGreater(ended, 400)

    def check_kept(self, crowd):
        greatest = max([work[3][0] for work in crowd.works], default=(0, 0))
        kept = [keeper for keeper in crowd.keepers if keeper.pair[0] >= greatest]
        self.assertTrue(is_more(crowd.count, len(kept)))

    def check_stamps(self, crowd):
        self.assertEqual(len(set(crowd.stamps)), len(crowd.stamps))
        for earlier in crowd.works:
            for word, begun, ended, pair in crowd.works:
                if earlier[2] < begun:
                    self.assertGreaterEqual(pair[0], earlier[3][0])
                    if word == "write":
                        self.assertGreater(pair[0], earlier[3][0])


if __name__ == "__main__":
    unittest.main()
