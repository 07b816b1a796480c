import copy
import random
import unittest

from chance import some_story, some_value

from halfask.errors import HalfError, NoLine
from halfask.lines import read, shown
from halfask.story import all_after

HUGE = 10 ** 100 - 1
FIGURES = "9" * 100

PAIRS = [
    ((0, "write", 7, 3, 12), "0 writes 7 from 3 to 12"),
    ((1, "read", -7, 4, 9), "1 reads -7 from 4 to 9"),
    ((0, "write", 7, 3, None), "0 writes 7 from 3"),
    ((1, "read", None, 4, None), "1 reads from 4"),
    ((0, "write", 0, 0, 1), "0 writes 0 from 0 to 1"),
    ((8, "read", 0, 0, 1), "8 reads 0 from 0 to 1"),
    ((0, "read", None, 0, None), "0 reads from 0"),
    ((3, "write", -10, 10, 100), "3 writes -10 from 10 to 100"),
    ((10, "write", 1000, 149, 150), "10 writes 1000 from 149 to 150"),
    ((2, "write", HUGE, 0, None), "2 writes " + FIGURES + " from 0"),
    ((2, "read", -HUGE, 0, 5), "2 reads -" + FIGURES + " from 0 to 5"),
    ((HUGE, "write", 1, HUGE - 1, HUGE), FIGURES + " writes 1 from " + FIGURES[1:] + "8 to " + FIGURES),
]

NO_LINES = [
    "", " ", "0", "writes", "0 writes", "0 reads", "0 writes 7", "0 reads 7", "0 writes 7 from", "0 reads from",
    # A part too few or too many, or two of them changed about.
    "0 writes from 3", "0 writes from 3 to 12", "0 reads from 4 to 9", "0 reads 7 from 4", "writes 7 from 3",
    "reads from 4", "0 7 from 3", "0 from 3", "0 writes 7 3", "0 writes 7 from 3 12", "0 writes 7 from 3 to",
    "0 reads 7 from 4 to", "0 reads 7 from", "0 reads 7 from 4 9", "0 reads 7 from 4 to 9 10", "0 reads 7 8 from 4 to 9",
    "0 writes 7 to 12", "0 writes 7 to 12 from 3", "0 writes 7 from 3 to 12 to 13", "0 writes 7 from 3 from 4",
    "0 writes 7 8 from 3", "0 0 writes 7 from 3", "0 reads from from 4", "0 reads from 4 5", "7 writes from 3 0",
    "writes 0 7 from 3", "0 reads 7 from from", "0 writes 7 from to 3", "0 writes 7 from 3 to 12 13",
    # Other words.
    "0 write 7 from 3", "0 read from 4", "0 Writes 7 from 3", "0 READS from 4", "0 writes 7 From 3", "0 writes 7 from 3 To 4",
    "0 wrote 7 from 3", "0 keeps 7 from 3", "0 writess 7 from 3", "0 readss from 4", "0 writes 7 at 3", "0 reads at 4",
    "0 writes 7 from 3 till 12", "0 reads to 4", "0 writes None from 3", "0 reads None from 4", "0 writes 7 from 3 to None",
    # Other blanks.
    " 0 writes 7 from 3", "0 writes 7 from 3 ", "0  writes 7 from 3", "0 writes  7 from 3", "0 writes 7 from  3",
    "0\twrites 7 from 3", "0 writes 7 from 3\n", "\n0 writes 7 from 3", "0 writes 7 from\n3", "0\xa0writes 7 from 3",
    "0 writes 7 from 3\r", "0 writes 7 from 3 to 12 ", "0 reads  from 4", "0 reads from 4 ", "0_writes_7_from_3",
    "0 writes 7 from 3\n1 reads from 4", "0 reads  7 from 4 to 9", "0writes 7 from 3", "0 writes7 from 3",
    # A nought ahead.
    "00 writes 7 from 3", "01 writes 7 from 3", "0 writes 07 from 3", "0 writes 00 from 3", "0 writes 7 from 03",
    "0 writes 7 from 3 to 012", "0 writes 7 from 00", "0 writes -07 from 3", "0 reads from 04", "0 reads 00 from 4 to 9",
    # Signs.
    "0 writes -0 from 3", "0 reads -0 from 4 to 9", "0 writes +7 from 3", "0 writes --7 from 3", "0 writes - from 3",
    "0 writes - 7 from 3", "0 writes 7- from 3", "0 writes -+7 from 3", "0 writes +-7 from 3", "0 writes +0 from 3",
    "-0 writes 7 from 3", "-1 writes 7 from 3", "+1 writes 7 from 3", "0 writes 7 from -3", "0 writes 7 from -0",
    "0 writes 7 from +3", "0 writes 7 from -3 to 12", "0 writes 7 from 3 to -12", "0 writes 7 from -5 to -3",
    "0 writes 7 from 3 to +12", "-1 reads from 4", "0 reads from -4", "0 writes \u22127 from 3",
    # No figures.
    "a writes 7 from 3", "0 writes x from 3", "0 writes 7 from y", "0 writes 7 from 3 to z", "0 writes 7.0 from 3",
    "0 writes 7e1 from 3", "0 writes 0x7 from 3", "0 writes 1_0 from 3", "0 writes 1,0 from 3", "0 writes 7 from 1_0",
    "0 writes \u0667 from 3", "0 writes \u00b2 from 3", "0 writes \uff17 from 3", "\u0660 writes 7 from 3",
    "0 writes 7 from \u0663", "0 writes 7 from 3 to \u0669", "0 writes 1\u0667 from 3", "0 reads from \u00b2", "0 writes \u2460 from 3",
    "0 writes 7 from 3.", "0 writes 7, from 3", "0: writes 7 from 3", "0 writes True from 3", "0 writes '7' from 3",
    # An end that is no greater than its beginning.
    "0 writes 7 from 3 to 3", "0 writes 7 from 3 to 2", "0 writes 7 from 3 to 0", "0 writes 7 from 0 to 0",
    "1 reads -7 from 9 to 9", "1 reads -7 from 9 to 4", "0 writes 7 from 12 to 3", "0 writes 7 from 10 to 9",
]


def some_works(dice, many):
    works = []
    begun = -1
    for place in range(many):
        begun += dice.choice((1, 1, 2, 10, 10 ** 30))
        word = dice.choice(("write", "read"))
        ended = dice.choice((None, begun + 1, begun + dice.randint(1, 500)))
        value = None if word == "read" and ended is None else some_value(dice)
        works.append((dice.choice((0, 1, 8, 9, 10, 90, 10 ** 20)), word, value, begun, ended))
    return works


class ShownTest(unittest.TestCase):
    def test_no_works(self):
        self.assertEqual(shown([]), [])

    def test_each_form(self):
        for work, line in PAIRS:
            self.assertEqual(shown([work]), [line])

    def test_several_works(self):
        works = [(0, "write", 7, 3, 12), (1, "read", -7, 4, 9), (1, "read", None, 10, None), (0, "write", 7, 13, None)]
        lines = ["0 writes 7 from 3 to 12", "1 reads -7 from 4 to 9", "1 reads from 10", "0 writes 7 from 13"]
        self.assertEqual(shown(works), lines)

    def test_every_small_number_is_shown_as_python_does(self):
        for value in range(-1100, 1101):
            self.assertEqual(shown([(0, "write", value, 0, None)]), [f"0 writes {value} from 0"])


class ReadTest(unittest.TestCase):
    def test_no_lines(self):
        self.assertEqual(read([]), [])

    def test_each_form(self):
        for work, line in PAIRS:
            self.assertEqual(read([line]), [work])

    def test_the_kinds_of_what_is_read(self):
        works = read(["0 writes 7 from 3 to 12"])
        self.assertIs(type(works), list)
        self.assertIs(type(works[0]), tuple)
        self.assertEqual([type(part) for part in works[0]], [int, str, int, int, int])

    def test_whatever_values_hands_and_places(self):
        # A hand at two works at once, a read of what nobody wrote, hands and places beyond all bounds.
        lines = ["12 writes 7 from 3 to 500", "12 reads 99 from 4 to 6", "12 writes 7 from 5", "700 reads 1 from 999 to 1000"]
        works = [(12, "write", 7, 3, 500), (12, "read", 99, 4, 6), (12, "write", 7, 5, None), (700, "read", 1, 999, 1000)]
        self.assertEqual(read(lines), works)
        self.assertEqual(shown(works), lines)

    def test_numbers_of_very_many_figures(self):
        for figures in (101, 900, 5000):
            value = 10 ** figures - 1
            lines = ["0 writes -" + "9" * figures + " from 1" + "0" * figures + " to 1" + "0" * (figures - 1) + "1" * 2]
            works = [(0, "write", -value, 10 ** figures, 10 ** (figures + 1) + 11)]
            self.assertEqual(read(lines), works)
            self.assertEqual(shown(works), lines)

    def test_two_hundred_lines_and_somewhat_more(self):
        for many in (200, 250):
            works = some_works(random.Random(many), many)
            self.assertEqual(read(shown(works)), works)


class NoLineTest(unittest.TestCase):
    def refused(self, lines):
        with self.assertRaises(NoLine, msg=lines) as taken:
            read(lines)
        self.assertIs(type(taken.exception), NoLine)
        self.assertIsInstance(taken.exception, HalfError)

    def test_what_is_no_line(self):
        for line in NO_LINES:
            self.refused([line])

    def test_anywhere_among_lines(self):
        for line in NO_LINES:
            self.refused(["0 writes 7 from 0 to 1", line])
            self.refused([line, "0 writes 7 from 200 to 201"])
            self.refused(["0 writes 7 from 0", line, "0 writes 7 from 200"])

    def test_begun_rises_from_line_to_line(self):
        lines = ["0 writes 7 from 3", "1 reads from 4", "2 reads 0 from 10 to 11"]
        self.assertEqual([work[3] for work in read(lines)], [3, 4, 10])
        for begun in (0, 3, 4, 9, 10):
            self.refused(lines + [f"3 reads from {begun}"])
            self.refused(lines + [f"3 writes 5 from {begun} to 50"])
        self.assertEqual(read(lines + ["3 reads from 11"])[-1], (3, "read", None, 11, None))

    def test_begun_rises_at_the_very_beginning_too(self):
        self.refused(["0 reads from 0", "1 reads from 0"])
        self.refused(["0 reads from 1", "1 reads from 0"])
        self.refused(["0 reads from 9", "1 reads from 10", "1 reads from 9"])

    def test_ends_need_not_rise(self):
        self.assertEqual(len(read(["0 writes 1 from 0 to 90", "1 writes 2 from 1 to 5", "2 writes 3 from 2 to 5"])), 3)

    def test_lists_of_lines_changed_by_chance(self):
        dice = random.Random(8)
        signs = "0123456789-+ _.\tafmorstwide\u0663"
        refused = 0
        for turn in range(6000):
            lines = shown(some_works(dice, dice.randint(1, 3)))
            at = dice.randrange(len(lines))
            line = lines[at]
            place = dice.randrange(len(line) + 1)
            lines[at] = line[:place] + dice.choice(("", dice.choice(signs))) + line[place + dice.randint(0, 1):]
            try:
                works = read(lines)
            except NoLine:
                refused += 1
            else:
                self.assertEqual([self.plain(work) for work in works], lines)
                self.assertEqual(shown(works), lines)
        self.assertGreater(refused, 2000)
        self.assertLess(refused, 5800)

    def plain(self, work):
        hand, word, value, begun, ended = work
        middle = "" if value is None else f" {value}"
        return f"{hand} {word}s{middle} from {begun}" + ("" if ended is None else f" to {ended}")


class ThereAndBackTest(unittest.TestCase):
    def test_works_by_chance(self):
        dice = random.Random(9)
        for turn in range(300):
            works = some_works(dice, dice.randint(0, 8))
            self.assertEqual(read(shown(works)), works)

    def test_works_of_stories(self):
        for seed in range(40):
            count, many, deeds = some_story(seed)
            works = all_after(count, many, deeds)[0]
            self.assertEqual(read(shown(works)), works)


class HandedInTest(unittest.TestCase):
    def test_works_and_lines_are_as_they_were(self):
        works = [work for work, line in PAIRS[:2]]
        lines = [line for work, line in PAIRS[:2]]
        before = copy.deepcopy((works, lines))
        shown(works)
        read(lines)
        self.assertEqual((works, lines), before)
        lines.append("no line")
        with self.assertRaises(NoLine):
            read(lines)
        self.assertEqual(lines, before[1] + ["no line"])


if __name__ == "__main__":
    unittest.main()
