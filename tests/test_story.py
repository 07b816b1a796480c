import copy
import unittest

from chance import some_story
from model import Model

from halfask.story import all_after, answers

HUGE = 10 ** 100 - 1
BEGINNING = ((0, 0), 0)
LEAST = {1: 1, 2: 2, 3: 2, 4: 3, 5: 3, 6: 4, 7: 4, 8: 5, 9: 5}


def last_answer(count, many, deeds):
    return answers(count, many, deeds)[-1]


class OrdinaryTest(unittest.TestCase):
    def test_no_deeds(self):
        self.assertEqual(answers(3, 2, []), [])
        self.assertEqual(all_after(3, 2, []), ([], [], [BEGINNING] * 3))

    def test_a_write_and_a_read(self):
        deeds = [("write", 0, 7), ("sweep",), ("read", 1), ("sweep",)]
        self.assertEqual(answers(3, 2, deeds), [0, [(0, 7)], 1, [(1, 7)]])
        works = [(0, "write", 7, 0, 1), (1, "read", 7, 2, 3)]
        self.assertEqual(all_after(3, 2, deeds), (works, [(1, 0), (1, 0)], [((1, 0), 7)] * 3))

    def test_a_read_with_no_write_ahead_tells_nought(self):
        deeds = [("read", 1), ("sweep",)]
        self.assertEqual(answers(4, 2, deeds), [0, [(0, 0)]])
        self.assertEqual(all_after(4, 2, deeds), ([(1, "read", 0, 0, 1)], [(0, 0)], [BEGINNING] * 4))

    def test_one_keeper_and_nine_one_hand_and_nine(self):
        for count in (1, 9):
            for many in (1, 9):
                deeds = [("write", many - 1, -5), ("sweep",), ("read", 0), ("sweep",)]
                self.assertEqual(answers(count, many, deeds), [0, [(0, -5)], 1, [(1, -5)]])
                self.assertEqual(all_after(count, many, deeds)[2], [((1, many - 1), -5)] * count)

    def test_somewhat_more_than_nine_and_than_a_hundred_and_fifty_deeds(self):
        deeds = [("write", 11, 3), ("sweep",)] * 100
        self.assertEqual(answers(12, 12, deeds)[-2:], [99, [(99, 3)]])
        self.assertEqual(all_after(12, 12, deeds)[1][-1], (100, 11))

    def test_values_of_a_hundred_figures_and_of_either_sign(self):
        for value in (HUGE, -HUGE, 0, 1, -1, 10 ** 120):
            deeds = [("write", 0, value), ("sweep",), ("read", 0), ("sweep",)]
            self.assertEqual(answers(3, 1, deeds), [0, [(0, value)], 1, [(1, value)]])
            works = [(0, "write", value, 0, 1), (0, "read", value, 2, 3)]
            self.assertEqual(all_after(3, 1, deeds), (works, [(1, 0), (1, 0)], [((1, 0), value)] * 3))

    def test_the_kinds_of_what_is_given_back(self):
        deeds = [("write", 0, 7), ("carry", 0, False), ("sweep",), ("pass", 0, 0), ("stop", 0), ("stop", 0)]
        told = answers(1, 1, deeds)
        self.assertEqual([kind.__name__ for kind in map(type, told)], ["int", "NoneType", "list", "list", "bool", "bool"])
        self.assertIs(type(told[2][0]), tuple)
        after = all_after(1, 1, deeds)
        self.assertIs(type(after), tuple)
        self.assertEqual([type(part) for part in after], [list, list, list])
        self.assertEqual([type(part[0]) for part in after], [tuple, tuple, tuple])

    def test_one_story_knows_nothing_of_another(self):
        deeds = [("write", 0, 7), ("sweep",)]
        self.assertEqual(answers(3, 1, deeds), answers(3, 1, deeds))
        self.assertEqual(all_after(3, 1, [])[2], [BEGINNING] * 3)


class CarryTest(unittest.TestCase):
    def test_letter_by_letter_with_one_keeper(self):
        deeds = [("write", 0, 7)] + [("carry", 0, False)] * 5
        self.assertEqual(answers(1, 1, deeds), [0, None, None, None, (0, 7), "no letter"])
        self.assertEqual(all_after(1, 1, deeds)[0], [(0, "write", 7, 0, 4)])

    def test_the_row(self):
        deeds = [
            ("write", 0, 5),       # asks 0 1 2
            ("carry", 1, False),   # asks 0 2, answer 1
            ("carry", 2, False),   # asks 0 2
            ("carry", 0, False),   # ask 2, answer 0
            ("carry", 3, False),   # ask 2, keeps 0 1 2
            ("carry", 2, False),   # ask 2, keeps 0 2, answer 1
        ]
        self.assertEqual(all_after(3, 1, deeds), ([(0, "write", 5, 0, None)], [(1, 0)], [BEGINNING, ((1, 0), 5), BEGINNING]))
        deeds = deeds + [
            ("carry", 3, False),   # ask 2, keeps 0 2
            ("carry", 1, False),   # ask 2, keep 2, answer 0
            ("carry", 2, False),   # ask 2, keep 2
        ]
        self.assertEqual(answers(3, 1, deeds), [0] + [None] * 7 + [(0, 5)])
        self.assertEqual(all_after(3, 1, deeds)[2], [((1, 0), 5), ((1, 0), 5), BEGINNING])
        self.assertEqual(answers(3, 1, deeds + [("sweep",)])[-1], [])

    def test_a_number_greater_than_the_row_is_long(self):
        # Ask 2 is lost, four letters come, and the keeps of the second round are under way.
        deeds = [("write", 0, 5), ("stop", 2), ("pass", 0, 2)] + [("carry", 0, False)] * 4 + [("wake", 2)]
        numbers = {0: 0, 1: 1, 2: 2, 3: 0, 7: 1, 11: 2, 10 ** 100: 1, 10 ** 100 - 1: 0, 10 ** 100 + 1: 2}
        for number, keeper in numbers.items():
            pairs = all_after(3, 1, deeds + [("carry", number, False)])[2]
            wanted = [BEGINNING] * 3
            wanted[keeper] = ((1, 0), 5)
            self.assertEqual(pairs, wanted, number)

    def test_a_letter_that_comes_and_is_under_way_still(self):
        deeds = [("write", 0, 7), ("carry", 0, True), ("carry", 0, True), ("carry", 0, False)]
        self.assertEqual(answers(1, 1, deeds + [("sweep",)]), [0, None, None, None, [(0, 7)]])
        # Three answers came of the one letter: with the first the second round begins, the others count for nothing.
        carries = [("carry", 0, False)] * 5
        self.assertEqual(answers(1, 1, deeds + carries)[4:], [None, None, None, None, (0, 7)])

    def test_a_letter_that_stays_keeps_its_place(self):
        deeds = [("write", 0, 7), ("carry", 0, True), ("carry", 1, False), ("carry", 0, False), ("carry", 0, False)]
        # ask; ask answer; ask keep; keep answer; answer answer
        self.assertEqual(all_after(1, 1, deeds)[2], [((1, 0), 7)])
        self.assertEqual(answers(1, 1, deeds + [("carry", 0, False)] * 2)[-2:], [None, (0, 7)])

    def test_a_letter_that_stays_is_under_way_still_where_its_keeper_has_stopped(self):
        deeds = [("write", 0, 7), ("stop", 0), ("carry", 0, True), ("wake", 0), ("sweep",)]
        self.assertEqual(answers(1, 1, deeds), [0, True, None, True, [(0, 7)]])
        deeds[2] = ("carry", 0, False)
        self.assertEqual(answers(1, 1, deeds), [0, True, None, True, []])

    def test_an_answer_that_stays_does_not_count_twice(self):
        deeds = [("read", 0), ("carry", 0, False)] + [("carry", 2, True)] * 6
        works, stamps, pairs = all_after(3, 1, deeds)
        self.assertEqual(stamps, [None])

    def test_a_work_ends_once(self):
        deeds = [("write", 0, 7)] + [("carry", 0, False)] * 3 + [("carry", 0, True)] * 2 + [("carry", 0, False), ("sweep",)]
        self.assertEqual(answers(1, 1, deeds)[4:], [(0, 7), None, None, []])
        self.assertEqual(all_after(1, 1, deeds)[0], [(0, "write", 7, 0, 4)])

    def test_an_old_keep_comes_late(self):
        # The keep of the first write stays under way, and comes once more behind the second write.
        deeds = [("write", 0, 1), ("carry", 0, False), ("carry", 0, False), ("carry", 0, True), ("carry", 1, False)]
        deeds += [("write", 0, 2), ("carry", 1, False), ("carry", 1, False), ("carry", 1, False), ("carry", 1, False)]
        self.assertEqual(answers(1, 1, deeds)[-1], (1, 2))
        self.assertEqual(all_after(1, 1, deeds + [("sweep",)])[2], [((2, 0), 2)])


class PassTest(unittest.TestCase):
    def test_a_work_by_passes(self):
        deeds = [("write", 1, 9), ("pass", 1, 0), ("pass", 1, 2), ("pass", 1, 0), ("pass", 1, 2)]
        self.assertEqual(answers(3, 2, deeds), [0, [], [], [(0, 9)], []])
        self.assertEqual(all_after(3, 2, deeds)[2], [((1, 1), 9), BEGINNING, ((1, 1), 9)])

    def test_one_keeper_needs_one_pass(self):
        self.assertEqual(answers(1, 1, [("write", 0, 9), ("pass", 0, 0)]), [0, [(0, 9)]])

    def test_letters_of_others_stay_under_way(self):
        deeds = [("write", 0, 9), ("read", 1), ("pass", 0, 0)]
        self.assertEqual(answers(1, 2, deeds + [("sweep",)]), [0, 1, [(0, 9)], [(1, 9)]])

    def test_no_letters_between_the_two(self):
        self.assertEqual(answers(2, 2, [("pass", 0, 0), ("write", 0, 1), ("pass", 1, 0)]), [[], 0, []])

    def test_a_keeper_that_has_stopped(self):
        deeds = [("write", 0, 9), ("stop", 0), ("pass", 0, 0), ("wake", 0), ("pass", 0, 0), ("again", 0), ("pass", 0, 0)]
        self.assertEqual(answers(1, 1, deeds), [0, True, [], True, [], 1, [(0, 9)]])


class SweepTest(unittest.TestCase):
    def test_all_works_that_end_are_told_in_order(self):
        deeds = [("read", 2), ("write", 0, 4), ("read", 1), ("sweep",)]
        self.assertEqual(answers(3, 3, deeds), [0, 1, 2, [(0, 0), (1, 4), (2, 0)]])

    def test_nothing_under_way(self):
        self.assertEqual(answers(2, 1, [("sweep",), ("sweep",)]), [[], []])

    def test_stays_is_for_carry_alone(self):
        self.assertEqual(answers(1, 1, [("read", 0), ("carry", 0, True), ("sweep",), ("carry", 0, False)])[3], "no letter")


class HalfTest(unittest.TestCase):
    def test_exactly_half_and_one_more(self):
        for count, least in LEAST.items():
            stops = [("stop", keeper) for keeper in range(count - least)]
            deeds = stops + [("write", 0, 6), ("sweep",), ("read", 0), ("sweep",)]
            self.assertEqual(answers(count, 1, deeds)[-4:], [0, [(0, 6)], 1, [(1, 6)]], count)
            stops = [("stop", keeper) for keeper in range(count - least + 1)]
            deeds = stops + [("write", 0, 6), ("sweep",), ("read", 0), ("again", 0), ("sweep",)]
            self.assertEqual(answers(count, 1, deeds)[-5:], [0, [], "busy", count - least + 1, []], count)
            self.assertEqual(all_after(count, 1, deeds)[1], [None])

    def test_the_second_round_needs_more_than_half_too(self):
        # Two of four answer a pass each; the third one's answer begins the second round.
        deeds = [("write", 0, 6), ("pass", 0, 0), ("pass", 0, 1)]
        self.assertEqual(all_after(4, 1, deeds)[1], [None])
        deeds = deeds + [("pass", 0, 2)]
        self.assertEqual(all_after(4, 1, deeds)[1], [(1, 0)])
        deeds = deeds + [("pass", 0, 3), ("stop", 0), ("stop", 1), ("sweep",)]
        self.assertEqual(last_answer(4, 1, deeds), [])
        self.assertEqual(all_after(4, 1, deeds)[2], [BEGINNING, BEGINNING, ((1, 0), 6), ((1, 0), 6)])
        deeds = deeds + [("wake", 0), ("again", 0), ("sweep",)]
        self.assertEqual(answers(4, 1, deeds)[-2:], [2, [(0, 6)]])

    def test_what_a_stopped_keeper_keeps_is_there_when_it_comes_up(self):
        deeds = [("write", 0, 6), ("sweep",), ("stop", 0), ("write", 0, 8), ("sweep",), ("wake", 0)]
        self.assertEqual(all_after(3, 1, deeds)[2], [((1, 0), 6), ((2, 0), 8), ((2, 0), 8)])

    def test_a_read_brings_up_to_date_the_keepers_that_it_asks(self):
        deeds = [("write", 0, 6), ("pass", 0, 0), ("pass", 0, 1), ("pass", 0, 0), ("read", 1)]
        deeds += [("pass", 1, 2), ("pass", 1, 1), ("pass", 1, 2)]
        self.assertEqual(last_answer(3, 2, deeds), [(1, 6)])
        self.assertEqual(all_after(3, 2, deeds)[2], [((1, 0), 6)] * 3)


class LateAnswersTest(unittest.TestCase):
    # Keeper 0's older answer to hand 1 is under way while the write of hand 0 ends; then it is asked once more.
    BEGUN = [("carry", 0, True), ("write", 0, 7), ("pass", 0, 0), ("pass", 0, 1), ("pass", 0, 0), ("carry", 0, False)]
    # asks 1 2 of hand 1, older answer 0, ask 2 and keep 2 of hand 0, newer answer 0
    OLDER_LAST = [("carry", 5, False), ("carry", 2, False)]
    NEWER_LAST = [("carry", 2, False), ("carry", 4, False)]
    # ask 1 of hand 1, ask 2 and keep 2 of hand 0, answer 2
    THIRD = [("carry", 1, False), ("carry", 3, False)]

    def test_the_write_ends_meanwhile(self):
        self.assertEqual(answers(3, 2, [("read", 1)] + self.BEGUN), [0, None, 1, [], [], [(1, 7)], None])

    def test_of_answers_of_one_keeper_the_last_one_counts_alone_for_a_read(self):
        for two, stamp, value in [(self.OLDER_LAST, (0, 0), 0), (self.NEWER_LAST, (1, 0), 7)]:
            deeds = [("read", 1)] + self.BEGUN + two
            self.assertEqual(all_after(3, 2, deeds)[1], [None, (1, 0)])
            deeds = deeds + self.THIRD
            self.assertEqual(all_after(3, 2, deeds)[1], [stamp, (1, 0)])
            self.assertEqual(last_answer(3, 2, deeds + [("sweep",)]), [(0, value)])

    def test_of_answers_of_one_keeper_the_last_one_counts_alone_for_a_write(self):
        for two, stamp in [(self.OLDER_LAST, (1, 1)), (self.NEWER_LAST, (2, 1))]:
            deeds = [("write", 1, 9)] + self.BEGUN + two + self.THIRD
            self.assertEqual(all_after(3, 2, deeds)[1], [stamp, (1, 0)])

    def test_answers_of_the_first_round_count_for_nothing_in_the_second(self):
        # All three asks come, then all three answers: the third one comes in the second round.
        deeds = [("write", 0, 7)] + [("carry", 0, False)] * 6
        self.assertEqual(all_after(3, 1, deeds)[1], [(1, 0)])
        deeds = deeds + [("carry", 0, False), ("carry", 2, False), ("again", 0)]
        self.assertEqual(answers(3, 1, deeds)[-2:], [None, 2])

    def test_answers_of_a_work_given_up_count_for_nothing(self):
        deeds = [("read", 0)] + [("carry", 0, False)] * 3 + [("quit", 0), ("read", 0)]
        # answers 0 1 2 of the first read, asks 0 1 2 of the second one
        deeds = deeds + [("carry", 0, False)] * 3
        self.assertEqual(answers(3, 1, deeds)[4:], [0, 1, None, None, None])
        self.assertEqual(all_after(3, 1, deeds)[1], [None, None])
        self.assertEqual(answers(3, 1, deeds + [("again", 0), ("sweep",)])[-2:], [3, [(1, 0)]])

    def test_answers_of_the_second_round_of_a_work_given_up_count_for_nothing(self):
        deeds = [("write", 0, 7)] + [("carry", 0, False)] * 9 + [("quit", 0), ("write", 0, 8)]
        # answers 0 1 2 to the keeps of the first write, asks 0 1 2 of the second one
        self.assertEqual(all_after(3, 1, deeds)[2], [((1, 0), 7)] * 3)
        deeds = deeds + [("carry", 0, False)] * 3
        self.assertEqual(all_after(3, 1, deeds)[1], [(1, 0), None])
        self.assertEqual(answers(3, 1, deeds + [("again", 0), ("sweep",)])[-5:], [None, None, None, 3, [(1, 8)]])

    def test_answers_that_come_to_a_hand_at_rest_count_for_nothing(self):
        deeds = [("read", 0), ("carry", 0, False), ("quit", 0), ("carry", 0, False), ("carry", 0, False)]
        self.assertEqual(answers(1, 1, deeds), [0, None, 0, None, "no letter"])


class GivenUpTest(unittest.TestCase):
    def test_a_write_given_up_in_its_first_round_never_comes_about(self):
        deeds = [("write", 0, 7), ("pass", 0, 0), ("quit", 0), ("sweep",), ("read", 1), ("sweep",)]
        self.assertEqual(answers(3, 2, deeds), [0, [], 0, [], 1, [(1, 0)]])
        works = [(0, "write", 7, 0, None), (1, "read", 0, 4, 5)]
        self.assertEqual(all_after(3, 2, deeds), (works, [None, (0, 0)], [BEGINNING] * 3))

    def test_a_write_given_up_in_its_second_round_may_come_about(self):
        deeds = [("write", 0, 7), ("pass", 0, 0), ("pass", 0, 1), ("quit", 0), ("read", 1), ("pass", 1, 1), ("pass", 1, 2)]
        self.assertEqual(answers(3, 2, deeds), [0, [], [], 0, 1, [], []])
        self.assertEqual(all_after(3, 2, deeds)[1:], ([(1, 0), (1, 0)], [BEGINNING, ((1, 0), 7), ((1, 0), 7)]))
        deeds = deeds + [("pass", 1, 1)]
        self.assertEqual(last_answer(3, 2, deeds), [(1, 7)])
        self.assertEqual(all_after(3, 2, deeds)[0], [(0, "write", 7, 0, None), (1, "read", 7, 4, 7)])

    def test_its_letters_come_all_the_same(self):
        deeds = [("write", 0, 7), ("pass", 0, 0), ("pass", 0, 1), ("quit", 0), ("sweep",)]
        self.assertEqual(last_answer(3, 1, deeds), [])
        self.assertEqual(all_after(3, 1, deeds), ([(0, "write", 7, 0, None)], [(1, 0)], [((1, 0), 7)] * 3))

    def test_a_write_given_up_in_its_second_round_counts_among_the_turns(self):
        # No keeper has its pair, yet the next write of the hand must have another stamp.
        deeds = [("write", 0, 7)] + [("carry", 0, False)] * 2 + [("quit", 0), ("stop", 0), ("sweep",), ("wake", 0)]
        self.assertEqual(all_after(1, 1, deeds)[1:], ([(1, 0)], [BEGINNING]))
        deeds = deeds + [("write", 0, 8), ("sweep",)]
        self.assertEqual(all_after(1, 1, deeds)[1:], ([(1, 0), (2, 0)], [((2, 0), 8)]))

    def test_a_write_given_up_in_its_first_round_has_no_turn(self):
        deeds = [("write", 0, 7), ("quit", 0), ("sweep",), ("write", 0, 8), ("sweep",)]
        self.assertEqual(all_after(3, 1, deeds)[1], [None, (1, 0)])

    def test_a_read_given_up(self):
        deeds = [("write", 1, 5), ("sweep",), ("read", 0), ("quit", 0), ("sweep",), ("read", 0)]
        deeds += [("carry", 0, False), ("carry", 0, False), ("quit", 0)]
        self.assertEqual(answers(1, 2, deeds)[2:], [1, 1, [], 2, None, None, 2])
        works = [(1, "write", 5, 0, 1), (0, "read", None, 2, None), (0, "read", None, 5, None)]
        self.assertEqual(all_after(1, 2, deeds)[:2], (works, [(1, 1), None, (1, 1)]))

    def test_the_hand_may_begin_another_work_at_once(self):
        deeds = [("write", 0, 7), ("quit", 0), ("read", 0), ("quit", 0), ("write", 0, 8)]
        self.assertEqual(answers(3, 1, deeds), [0, 0, 1, 1, 2])

    def test_the_stamp_of_a_work_given_up_stays_when_the_hand_goes_on(self):
        deeds = [("write", 0, 7)] + [("carry", 0, False)] * 2 + [("quit", 0), ("read", 0)]
        self.assertEqual(all_after(1, 1, deeds)[1], [(1, 0), None])


class AgainTest(unittest.TestCase):
    def test_letters_go_to_those_that_have_not_answered_alone(self):
        deeds = [("write", 0, 7), ("pass", 0, 2), ("again", 0), ("pass", 0, 3), ("again", 0)]
        self.assertEqual(answers(5, 1, deeds), [0, [], 4, [], 3])
        # The row holds asks 0 1 4, 0 1 4 and 0 1 4; none to 2 or 3.
        self.assertEqual(answers(5, 1, deeds + [("stop", 0), ("stop", 1), ("stop", 4), ("sweep",), ("again", 0)])[-2:], [[], 3])

    def test_lost_letters_are_sent_again(self):
        deeds = [("stop", 0), ("stop", 1), ("write", 0, 7), ("sweep",), ("wake", 1), ("sweep",), ("again", 0), ("sweep",)]
        self.assertEqual(answers(3, 1, deeds), [True, True, 0, [], True, [], 2, [(0, 7)]])

    def test_in_the_second_round_those_of_that_round_count(self):
        deeds = [("write", 0, 7), ("pass", 0, 0), ("pass", 0, 1), ("again", 0)]
        self.assertEqual(last_answer(3, 1, deeds), 2)
        self.assertEqual(last_answer(3, 1, deeds + [("stop", 1), ("sweep",)]), [(0, 7)])

    def test_they_are_put_behind_all_others(self):
        deeds = [("read", 0), ("write", 1, 4), ("again", 0)]
        # asks 0 1 of hand 0, asks 0 1 of hand 1, asks 0 1 of hand 0
        deeds += [("carry", 4, False), ("carry", 4, False)]
        works, stamps, pairs = all_after(2, 2, deeds + [("carry", 4, False), ("carry", 4, False)])
        self.assertEqual(stamps, [(0, 0), None])


class RefusedTest(unittest.TestCase):
    def test_a_hand_that_there_is_not(self):
        for hand in (2, 3, -1, -2, 9, HUGE, -HUGE):
            for deed in [("write", hand, 1), ("read", hand), ("again", hand), ("quit", hand), ("pass", hand, 0)]:
                self.assertEqual(answers(3, 2, [("read", 0), ("read", 1), deed]), [0, 1, "no hand"], deed)

    def test_a_keeper_that_there_is_not(self):
        for keeper in (3, 4, -1, -3, 9, HUGE, -HUGE):
            for deed in [("stop", keeper), ("wake", keeper), ("pass", 1, keeper)]:
                self.assertEqual(answers(3, 2, [("read", 1), deed]), [0, "no keeper"], deed)

    def test_the_last_hand_and_keeper_are_there(self):
        deeds = [("read", 8), ("pass", 8, 8), ("stop", 8), ("wake", 8), ("again", 8), ("quit", 8)]
        self.assertEqual(answers(9, 9, deeds), [0, [], True, True, 8, 0])

    def test_the_hand_is_asked_for_first(self):
        for hand, keeper in [(1, 1), (-1, -1), (1, -1), (-1, 1)]:
            self.assertEqual(answers(1, 1, [("pass", hand, keeper)]), ["no hand"])

    def test_busy(self):
        for first in [("write", 0, 1), ("read", 0)]:
            for then in [("write", 0, 2), ("read", 0)]:
                self.assertEqual(answers(3, 2, [first, then, ("read", 1), then]), [0, "busy", 1, "busy"])
                self.assertEqual(answers(3, 2, [first, ("sweep",), then])[2], 1)

    def test_idle(self):
        for deed in [("again", 0), ("quit", 0)]:
            self.assertEqual(answers(3, 2, [deed, ("read", 1), deed]), ["idle", 0, "idle"])
            self.assertEqual(last_answer(3, 2, [("read", 0), ("sweep",), deed]), "idle")
            self.assertEqual(last_answer(3, 2, [("read", 0), ("quit", 0), deed]), "idle")

    def test_no_letter(self):
        self.assertEqual(answers(3, 2, [("carry", 0, False), ("carry", 5, True)]), ["no letter"] * 2)
        self.assertEqual(last_answer(3, 2, [("read", 0), ("sweep",), ("carry", 1, False)]), "no letter")

    def test_refused_deeds_count_among_the_places(self):
        deeds = [("read", 5), ("quit", 0), ("carry", 0, False), ("write", 0, 7), ("write", 0, 8), ("stop", 9), ("sweep",)]
        self.assertEqual(answers(3, 1, deeds), ["no hand", "idle", "no letter", 0, "busy", "no keeper", [(0, 7)]])
        self.assertEqual(all_after(3, 1, deeds)[0], [(0, "write", 7, 3, 6)])

    def test_a_refused_write_leaves_the_works_value(self):
        deeds = [("write", 0, 7), ("write", 0, 8), ("read", 0), ("sweep",)]
        self.assertEqual(answers(3, 1, deeds), [0, "busy", "busy", [(0, 7)]])
        self.assertEqual(all_after(3, 1, deeds)[2], [((1, 0), 7)] * 3)

    def test_refused_deeds_change_nothing_but_the_count_of_deeds(self):
        for seed in range(60):
            count, many, deeds = some_story(seed)
            told = answers(count, many, deeds)
            # Each refused deed in the place of which stands another one that is refused whatever there is.
            plain = [("stop", -1) if isinstance(one, str) else deed for one, deed in zip(told, deeds)]
            self.assertEqual(all_after(count, many, plain), all_after(count, many, deeds), seed)
            kept = [one for one in answers(count, many, plain) if not isinstance(one, str)]
            self.assertEqual(kept, [one for one in told if not isinstance(one, str)], seed)


class StopTest(unittest.TestCase):
    def test_true_where_it_changes_anything(self):
        deeds = [("wake", 0), ("stop", 0), ("stop", 0), ("stop", 1), ("wake", 0), ("wake", 0)]
        told = answers(2, 1, deeds)
        self.assertEqual(told, [False, True, False, True, True, False])
        self.assertIs(told[0], False)
        self.assertIs(told[1], True)


class WorksTest(unittest.TestCase):
    def test_works_are_told_in_the_order_in_which_they_were_begun(self):
        deeds = [("read", 2), ("write", 1, -3), ("read", 0), ("pass", 0, 0)]
        self.assertEqual(answers(1, 3, deeds), [0, 1, 2, [(2, 0)]])
        works = [(2, "read", None, 0, None), (1, "write", -3, 1, None), (0, "read", 0, 2, 3)]
        self.assertEqual(all_after(1, 3, deeds)[:2], (works, [None, None, (0, 0)]))

    def test_works_that_end_by_one_deed_have_the_same_end(self):
        deeds = [("read", 0), ("write", 1, 4), ("sweep",)]
        self.assertEqual(all_after(3, 2, deeds)[0], [(0, "read", 0, 0, 2), (1, "write", 4, 1, 2)])

    def test_equal_turns_of_two_hands(self):
        # Both writes are told the beginning alone, so that the greater hand's stamp is greater.
        deeds = [("write", 1, 4), ("write", 0, 5), ("sweep",), ("read", 0), ("sweep",), ("write", 0, 6), ("sweep",)]
        self.assertEqual(answers(3, 2, deeds)[2:], [[(0, 4), (1, 5)], 2, [(2, 4)], 3, [(3, 6)]])
        self.assertEqual(all_after(3, 2, deeds)[1:], ([(1, 1), (1, 0), (1, 1), (2, 0)], [((2, 0), 6)] * 3))


class ModelTest(unittest.TestCase):
    def test_long_stories_go_as_the_model_tells(self):
        for seed in range(250):
            count, many, deeds = some_story(seed)
            model = Model(count, many)
            told = [model.answer(deed) for deed in deeds]
            self.assertEqual(answers(count, many, deeds), told, seed)
            self.assertEqual(all_after(count, many, deeds), model.all_after(), seed)


class HandedInTest(unittest.TestCase):
    def test_the_deeds_are_as_they_were(self):
        for seed in range(20):
            count, many, deeds = some_story(seed)
            before = copy.deepcopy(deeds)
            answers(count, many, deeds)
            self.assertEqual(deeds, before)
            all_after(count, many, deeds)
            self.assertEqual(deeds, before)


if __name__ == "__main__":
    unittest.main()
