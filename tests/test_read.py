"""Promise 5: read."""

import unittest

from tests.helper import (CODES, LATEST, as_text, ask, ask_all, at, begin, down, hand, read, sent, text_behind,
                          texts_behind_each, turns, units, units_behind, up)


def marks_as_lengths(marks, unit):
    """One letter's lengths, of whatever marks."""
    lengths = []
    for sign in marks:
        lengths += [unit if sign == "." else 3 * unit, unit]
    return lengths[:-1]


class NothingTold(unittest.TestCase):
    def test_before_anything_was_pressed(self):
        self.assertEqual(ask_all([begin(10, 20, 3), read()]), [[0], [0]])

    def test_never_pressed_however_late(self):
        for t in (1, 14, 100, 1000001, LATEST):
            with self.subTest(t=t):
                self.assertEqual(ask_all([begin(10, 10, 3), at(t), read()])[-1], [0])

    def test_in_the_first_mark(self):
        line = [begin(10, 10, 3), down(1000)]
        self.assertEqual(ask_all(line + [read(), at(1005), read(), at(1033), read()])[2::2], [[0], [0], [0]])

    def test_behind_the_first_mark(self):
        self.assertEqual(ask_all([begin(10, 10, 3), down(1000), up(1010), read()])[-1], [0])


class NoUnitMayBe(unittest.TestCase):
    def test_by_a_mark(self):
        self.assertEqual(ask_all([begin(10, 10, 3), down(0), up(20), read()])[2:], [[0], [-61]])

    def test_by_a_gap(self):
        self.assertEqual(ask_all([begin(10, 10, 3)] + turns([10, 20]) + [read()])[3:], [[0], [-61]])

    def test_by_a_key_that_stays_down(self):
        line = [begin(10, 10, 3)] + turns(sent("SO", 10) + [70])
        t = sum(sent("SO", 10)) + 70
        self.assertEqual(text_behind(line + [at(t + 33)]), "SO ")
        self.assertIsNone(text_behind(line + [at(t + 34)]))

    def test_what_is_asked_behind_it(self):
        line = [begin(10, 10, 3), down(0), up(20), read()]
        asked = [read(), units(), at(20), read(), down(20), down(19), up(21), down(30), read(), at(40), up(40), units(),
                 read()]
        told = [[-61], [0, 0, 0], [0], [-61], [-22], [-22], [-16], [0], [-61], [0], [0], [0, 0, 0], [-61]]
        self.assertEqual(ask_all(line + asked)[4:], told)

    def test_begun_again_behind_it(self):
        line = [begin(10, 10, 3), down(0), up(20), read(), begin(20, 20, 3), read(), down(0), up(20), at(44), read()]
        self.assertEqual(ask_all(line)[3:], [[-61], [0], [0], [1], [1], [1], [1, 69]])


class Letters(unittest.TestCase):
    def test_there_are_as_many_as_told(self):
        self.assertEqual("".join(sorted(CODES)), "0123456789ABCDEFGHIJKLMNOPQRSTUVWXYZ")
        self.assertEqual(len(set(CODES.values())), 36)

    def test_each_by_the_gap_that_goes_on(self):
        for letter in CODES:
            for unit, e in ((1, 0), (10, 3), (4096, 4095)):
                with self.subTest(letter=letter, unit=unit):
                    lengths = sent(letter, unit)
                    line = hand(unit, unit, e, lengths)
                    self.assertEqual(text_behind(line), "")
                    over = sum(lengths) + unit + e
                    self.assertEqual(text_behind(line + [at(over)]), "")
                    self.assertEqual(ask_all(line + [at(over + 1), read()])[-1], [1, ord(letter)])

    def test_each_by_a_gap_of_three(self):
        for letter in CODES:
            with self.subTest(letter=letter):
                self.assertEqual(text_behind(hand(10, 10, 3, sent(letter, 10) + [30])), letter)

    def test_each_by_a_gap_of_seven(self):
        for letter in CODES:
            with self.subTest(letter=letter):
                self.assertEqual(text_behind(hand(10, 10, 3, sent(letter, 10) + [70])), letter + " ")

    def test_all_in_a_row(self):
        text = "THE QUICK BROWN FOX JUMPS OVER 13 LAZY DOGS 24567890"
        self.assertEqual(text_behind(hand(10, 10, 3, sent(text, 10) + [30])), text)


class NoLetters(unittest.TestCase):
    def told(self, marks):
        return ask_all(hand(10, 10, 3, marks_as_lengths(marks, 10) + [30]) + [read()])[-1]

    def test_up_to_five_marks(self):
        rows = [""]
        tried = 0
        for size in range(1, 6):
            rows = [row + sign for row in rows for sign in ".-"]
            for marks in rows:
                if marks not in CODES.values():
                    tried += 1
                    with self.subTest(marks=marks):
                        self.assertEqual(self.told(marks), [1, 42])
        self.assertEqual(tried, 62 - 36)

    def test_six_and_many_more(self):
        for marks in ("......", "------", ".-.-.-", ".......", "-" * 20, "." * 300, ".-" * 250, "." * 511):
            with self.subTest(marks=marks):
                self.assertEqual(self.told(marks), [1, 42])

    def test_by_the_gap_that_goes_on(self):
        lengths = marks_as_lengths("..--", 10)
        line = hand(10, 10, 3, lengths)
        self.assertEqual(text_behind(line + [at(sum(lengths) + 13)]), "")
        self.assertEqual(text_behind(line + [at(sum(lengths) + 14)]), "*")
        self.assertEqual(text_behind(line + [at(sum(lengths) + 34)]), "* ")

    def test_among_letters(self):
        lengths = sent("A", 10) + [30] + marks_as_lengths("......", 10) + [70] + sent("B", 10) + [30]
        self.assertEqual(text_behind(hand(10, 10, 3, lengths)), "A* B")

    def test_marks_that_are_no_letters_by_two_units(self):
        # Six of 1 by the unit 30, six letters of 3 by 10.
        lengths = [30] * 11 + [210]
        self.assertEqual(text_behind(hand(30, 30, 0, lengths)), "* ")
        self.assertEqual(text_behind(hand(10, 10, 0, lengths)), "TTTTTT ")


class GapsThatAreOver(unittest.TestCase):
    def test_by_their_edges(self):
        told = {7: "", 10: "", 13: "", 27: "E", 30: "E", 33: "E", 67: "E ", 70: "E ", 73: "E ", 74: "E ", 1000: "E ",
                999999: "E ", 1000000: "E ", 1000001: "E ", 2000000000: "E "}
        for gap, text in told.items():
            with self.subTest(gap=gap):
                self.assertEqual(text_behind(hand(10, 10, 3, [10, gap])), text)
        for gap in (6, 14, 26, 34, 66):
            with self.subTest(gap=gap):
                self.assertIsNone(text_behind(hand(10, 10, 3, [10, gap])))

    def test_of_one_the_letter_goes_on(self):
        self.assertEqual(text_behind(hand(10, 10, 3, [10, 10, 30, 30])), "A")
        self.assertEqual(text_behind(hand(10, 10, 3, [10, 30, 30, 30])), "ET")
        self.assertEqual(text_behind(hand(10, 10, 3, [10, 70, 30, 30])), "E T")

    def test_each_blank_is_one(self):
        self.assertEqual(text_behind(hand(10, 10, 3, [10, 70, 10, 7000, 10, 140])), "E E E ")

    def test_slack_of_nothing(self):
        self.assertEqual([text_behind(hand(2, 2, 0, [2, gap])) for gap in range(1, 17)],
                         [None, "", None, None, None, "E", None, None, None, None, None, None, None, "E ", "E ", "E "])

    def test_the_greatest_slack(self):
        self.assertEqual([text_behind(hand(2, 2, 1, [2, gap])) for gap in range(1, 16)],
                         ["", "", "", None, "E", "E", "E", None, None, None, None, None, "E ", "E ", "E "])


class GapThatGoesOn(unittest.TestCase):
    def test_by_its_edges(self):
        for unit, e in ((1, 0), (10, 0), (10, 3), (10, 9), (4096, 0), (4096, 4095)):
            line = hand(unit, unit, e, [unit])
            edges = {0: "", unit + e: "", unit + e + 1: "E", 3 * unit + e: "E", 3 * unit + e + 1: "E ",
                     7 * unit: "E ", 1000000: "E ", 1000001: "E ", LATEST - unit: "E "}
            for gap, text in edges.items():
                with self.subTest(unit=unit, e=e, gap=gap):
                    self.assertEqual(text_behind(line + [at(unit + gap)]), text)

    def test_in_one_line(self):
        line = [begin(10, 10, 3), down(0), up(10)]
        told = texts_behind_each(line + [at(23), at(24), at(43), at(44), at(90), at(LATEST)])
        self.assertEqual(told[3:], ["", "E", "E", "E ", "E ", "E "])

    def test_the_greatest_unit_ends_it(self):
        # A mark of 11 may be 1 of 10, 11 and 12.
        line = [begin(10, 12, 1), down(0), up(11)]
        told = texts_behind_each(line + [at(11 + gap) for gap in (11, 12, 13, 14, 31, 32, 36, 37, 38)])
        self.assertEqual(told[3:], ["", "", "", "E", "E", "E", "E", "E", "E "])

    def test_the_key_down_again(self):
        line = [begin(10, 10, 3), down(0), up(10)]
        self.assertEqual(texts_behind_each(line + [at(35), down(40), at(60), at(73)])[3:], ["E", "E", "E", "E"])
        self.assertEqual(texts_behind_each(line + [at(22), down(22), at(50)])[3:], ["", "", ""])
        self.assertEqual(texts_behind_each(line + [at(44), down(77), at(100), up(107), at(121)])[3:],
                         ["E ", "E ", "E ", "E ", "E T"])

    def test_no_letter_is_over_twice(self):
        line = [begin(10, 10, 3), down(0), up(10), at(44), read(), read(), at(60), read(), down(80), read()]
        self.assertEqual([as_text(told) for told in ask_all(line) if len(told) > 1], ["E "] * 4)

    def test_the_units_that_may_not_be_are_not_asked(self):
        # 30 is 1 of 27 to 33 and 3 of 9 to 11; by the gap of 30 it's all the same.
        line = hand(5, 40, 3, [30, 30, 10, 10])
        self.assertEqual(units_behind(line), [3, 9, 11])
        self.assertEqual(text_behind(line), "T")

    def test_a_gap_between_the_counts_is_told_while_it_goes_on(self):
        # 20 is no gap of 10, but it may still become one of 3.
        line = [begin(10, 10, 3), down(0), up(10)]
        self.assertEqual(texts_behind_each(line + [at(30), down(30)])[3:], ["E", None])
        self.assertEqual(texts_behind_each(line + [at(60), down(60)])[3:], ["E ", None])


class BySeveralUnits(unittest.TestCase):
    # By 10 a gap of 22 is 3, by 13 to 20 it's 1; all of these have 15 as 1, and 150 as 7.
    FORK = [15, 150, 15, 22, 15, 150]

    def test_alike_whole(self):
        line = hand(9, 11, 3, sent("HELLO", 10) + [100])
        self.assertEqual(units_behind(line), [3, 9, 11])
        self.assertEqual(text_behind(line), "HELLO ")

    def test_alike_at_first_only(self):
        line = hand(10, 20, 9, self.FORK)
        self.assertEqual(units_behind(line), [9, 10, 20])
        self.assertEqual(text_behind(line), "E ")
        self.assertEqual(text_behind(hand(10, 10, 9, self.FORK)), "E EE ")
        self.assertEqual(text_behind(hand(13, 20, 9, self.FORK)), "E I ")

    def test_alike_at_first_and_again_at_last(self):
        line = hand(10, 20, 9, self.FORK + [15, 150, 15, 150])
        self.assertEqual(text_behind(line), "E ")

    def test_one_the_beginning_of_the_other(self):
        # By 10 the letter is over, by 13 to 20 it's not yet.
        line = hand(10, 20, 9, self.FORK[:4])
        self.assertEqual(text_behind(line), "E ")
        self.assertEqual(text_behind(hand(10, 10, 9, self.FORK[:4])), "E E")
        self.assertEqual(text_behind(hand(13, 20, 9, self.FORK[:4])), "E ")

    def test_one_the_beginning_of_the_other_in_the_gap_that_goes_on(self):
        line = hand(10, 20, 9, [15, 150, 15])
        told = [text_behind(line + [at(180 + gap)]) for gap in (19, 20, 29, 30, 39, 40, 69, 70)]
        self.assertEqual(told, ["E ", "E ", "E ", "E E", "E E", "E E", "E E", "E E "])

    def test_alike_in_nothing(self):
        line = hand(10, 30, 0, [30, 30, 30, 90])
        self.assertEqual(units_behind(line), [2, 10, 30])
        self.assertEqual(text_behind(line), "")
        self.assertEqual(text_behind(hand(10, 10, 0, [30, 30, 30, 90])), "TT ")
        self.assertEqual(text_behind(hand(30, 30, 0, [30, 30, 30, 90])), "I")

    def test_a_unit_that_goes_as_the_key_stays_down(self):
        t = sum(self.FORK)
        line = hand(10, 20, 9, self.FORK) + [at(t + 39), at(t + 40), at(t + 69), at(t + 70)]
        self.assertEqual(texts_behind_each(line)[-4:], ["E ", "E I ", "E I ", None])

    def test_units_that_go_by_a_length(self):
        # 29 may be 3 of 10 and 1 of 20; 3 is too short for 13 to 20, 50 too long for 10.
        self.assertEqual(text_behind(hand(10, 20, 9, self.FORK + [29])), "E ")
        self.assertEqual(text_behind(hand(10, 20, 9, self.FORK + [3])), "E EE ")
        self.assertEqual(text_behind(hand(10, 20, 9, self.FORK + [4])), "E ")
        self.assertEqual(text_behind(hand(10, 20, 9, self.FORK + [50])), "E I ")
        self.assertIsNone(text_behind(hand(10, 20, 9, self.FORK + [70])))


class ThreeTimesEOrT(unittest.TestCase):
    E_E_E = [30, 210, 30, 210, 30]

    def test_by_each_unit(self):
        self.assertEqual(text_behind(hand(30, 30, 0, self.E_E_E + [210])), "E E E ")
        self.assertEqual(text_behind(hand(10, 10, 0, self.E_E_E + [210])), "T T T ")

    def test_not_known(self):
        line = hand(10, 30, 0, self.E_E_E)
        self.assertEqual(texts_behind_each(line), [""] * 7)
        self.assertEqual(text_behind(line + [at(LATEST)]), "")
        self.assertEqual(units_behind(line), [2, 10, 30])

    def test_known_by_a_mark(self):
        line = hand(10, 30, 0, self.E_E_E + [210])
        self.assertEqual(text_behind(line), "")
        self.assertEqual(text_behind(line + [up(720 + 90)]), "E E E ")
        self.assertEqual(text_behind(line + [up(720 + 10)]), "T T T ")
        self.assertEqual(text_behind(line + [up(720 + 30)]), "")

    def test_known_by_a_gap(self):
        line = hand(10, 30, 0, self.E_E_E)
        self.assertEqual(text_behind(line + [down(510 + 10)]), "T T ")
        self.assertEqual(text_behind(line + [down(510 + 210)]), "")
        self.assertEqual(text_behind(line + [down(510 + 30)]), "")

    def test_known_as_the_key_stays_down(self):
        line = hand(10, 30, 0, self.E_E_E + [210])
        self.assertEqual(texts_behind_each(line + [at(750), at(751), at(810), at(811)])[-4:], ["", "E E E ", "E E E ", None])

    def test_with_slack(self):
        lengths = [32, 205, 28, 214, 31]
        self.assertEqual(text_behind(hand(8, 36, 4, lengths + [220])), "")
        self.assertEqual(text_behind(hand(8, 36, 4, lengths + [220, 88])), "E E E ")


class ReadChangesNothing(unittest.TestCase):
    def test_between_all_calls(self):
        line = hand(10, 20, 9, BySeveralUnits.FORK) + [at(400), up(400), begin(1, 1, 1), at(500)]
        with_reads = ask_all([asked for call in line for asked in (call, read(), units(), read())])
        self.assertEqual([told[0] for told in with_reads[::4]], ask(line))
        self.assertEqual(with_reads[1::4], with_reads[3::4])


if __name__ == "__main__":
    unittest.main()
