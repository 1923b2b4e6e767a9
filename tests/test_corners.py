"""The corners that the document names, asked of at, read and units."""

import unittest

from tests.helper import (LATEST, as_text, ask_all, at, begin, down, full, hand, read, sent, text_behind,
                          texts_behind_each, turns, units, units_behind, up)


class GapOfAMillion(unittest.TestCase):
    GAPS = (999999, 1000000, 1000001, 50000000, LATEST - 13000)

    def test_over(self):
        for gap in self.GAPS:
            for unit, e in ((1, 0), (10, 3), (4096, 4095)):
                with self.subTest(gap=gap, unit=unit):
                    line = hand(unit, unit, e, [3 * unit, gap])
                    self.assertEqual(text_behind(line), "T ")
                    self.assertEqual(units_behind(line), [1, unit, unit])

    def test_going_on(self):
        for gap in self.GAPS:
            for unit, e in ((1, 0), (10, 3), (4096, 4095)):
                with self.subTest(gap=gap, unit=unit):
                    line = hand(unit, unit, e, [3 * unit]) + [at(3 * unit + gap)]
                    self.assertEqual(text_behind(line), "T ")
                    self.assertEqual(units_behind(line), [1, unit, unit])

    def test_going_on_and_then_over(self):
        line = hand(10, 20, 3, [12]) + [at(1000012), at(1000013), down(3000000), up(3000036), at(3000100)]
        self.assertEqual(texts_behind_each(line)[3:], ["E ", "E ", "E ", "E ", "E T "])
        self.assertEqual(units_behind(line), [3, 11, 13])

    def test_several(self):
        line = hand(10, 20, 3, [12, 1000000, 36, 1000001, 12, 2000000])
        self.assertEqual(text_behind(line), "E T E ")


class AllLengths(unittest.TestCase):
    def test_at_read_and_units_behind_them(self):
        line, t = full(5)
        line = [begin(4, 6, 1)] + line
        self.assertEqual(ask_all(line + [units(), read(), at(t + 14), units(), read(), up(t + 14), read()])[-7:],
                         [[3, 4, 6], [0], [2], [2, 5, 6], [0], [-28], [0]])

    def test_as_many_letters_as_there_may_be(self):
        line = hand(4, 6, 1, [5, 15] * 512)
        told = ask_all(line + [read(), units(), at(20 * 512 + 15), read(), at(20 * 512 + 20), read()])
        self.assertEqual(told[-6:], [[512] + [69] * 512, [1, 5, 5], [1], [512] + [69] * 512, [0], [-61]])

    def test_as_many_bytes_as_there_may_be(self):
        line = hand(4, 6, 1, [15, 50] * 512)
        self.assertEqual(ask_all(line + [read()])[-1], [1024] + [84, 32] * 512)

    def test_one_length_less(self):
        line = hand(4, 6, 1, ([5, 15] * 512)[:-1])
        t = 20 * 512 - 15
        told = [as_text(ask_all(line + [at(t + gap), read()])[-1]) for gap in (0, 6, 7, 16, 17)]
        self.assertEqual(told, ["E" * 511, "E" * 511, "E" * 512, "E" * 512, "E" * 512 + " "])

    def test_with_many_units_left(self):
        line = hand(2048, 4096, 2047, [4095, 28672] * 512)
        t = (4095 + 28672) * 512
        told = ask_all(line + [read(), units(), at(t + 3 * 4096 + 2047), units(), read()])
        self.assertEqual(told[-5:], [[1024] + [69, 32] * 512, [2049, 2048, 4096], [1], [1, 4096, 4096],
                                     [1024] + [69, 32] * 512])

    def test_with_two_ways_to_read(self):
        lengths = [30, 210] * 512
        line = hand(10, 30, 0, lengths)
        self.assertEqual(units_behind(line), [2, 10, 30])
        self.assertEqual(text_behind(line), "")
        self.assertEqual(text_behind(line + [at(sum(lengths) + 31)]), "E " * 512)


class RangesAndSlacks(unittest.TestCase):
    def test_lo_the_same_as_hi(self):
        for unit in (1, 2, 77, 4096):
            with self.subTest(unit=unit):
                line = hand(unit, unit, 0, sent("AB 1", unit))
                end = sum(sent("AB 1", unit))
                self.assertEqual(units_behind(line), [1, unit, unit])
                self.assertEqual(text_behind(line + [at(end + unit)]), "AB ")
                self.assertEqual(text_behind(line + [at(end + unit + 1)]), "AB 1")
                self.assertEqual(text_behind(line + [at(end + 3 * unit + 1)]), "AB 1 ")

    def test_no_slack(self):
        line = hand(5, 40, 0, sent("ET", 10))
        self.assertEqual(units_behind(line), [1, 10, 10])
        self.assertEqual(text_behind(line), "E")
        self.assertIsNone(text_behind(hand(10, 10, 0, [10, 30, 31])))

    def test_slack_one_less_than_lo(self):
        lengths = [1, 39, 19, 1, 21, 61, 39]
        line = hand(10, 10, 9, lengths)
        self.assertEqual(text_behind(line + [at(sum(lengths) + 19)]), "EA ")
        self.assertEqual(text_behind(line + [at(sum(lengths) + 20)]), "EA T")
        self.assertEqual(text_behind(line + [at(sum(lengths) + 39)]), "EA T")
        self.assertEqual(text_behind(line + [at(sum(lengths) + 40)]), "EA T ")

    def test_the_widest_range(self):
        line = [begin(1, 4096, 0)]
        self.assertEqual(ask_all(line + [units(), read()])[1:], [[4096, 1, 4096], [0]])
        self.assertEqual(ask_all(line + [down(0), at(3 * 4096), units(), read(), at(3 * 4096 + 1), units(), read()])[2:],
                         [[1], [1, 4096, 4096], [0], [0], [0, 0, 0], [-61]])
        self.assertEqual(ask_all(line + turns([12, 84]) + [units(), read()])[-2:], [[2, 4, 12], [0]])
        self.assertEqual(ask_all(line + turns([12, 84, 36]) + [units(), read()])[-2:], [[1, 12, 12], [2, 69, 32]])

    def test_the_widest_range_and_unit_of_one(self):
        self.assertEqual(text_behind(hand(1, 4096, 0, sent("SOS", 1) + [7])), "SOS ")
        self.assertEqual(text_behind(hand(1, 4096, 0, sent("SOS", 4096) + [7 * 4096])), "SOS ")


class BegunAgain(unittest.TestCase):
    def test_while_the_key_is_down(self):
        line = hand(10, 10, 3, sent("HI", 10) + [70]) + [at(sum(sent("HI", 10)) + 90), begin(20, 30, 2)]
        self.assertEqual(ask_all(line + [read(), units(), up(500), at(0), down(0)])[-5:],
                         [[0], [11, 20, 30], [-16], [11], [11]])
        # No mark goes on any more: at rules nothing out.
        self.assertEqual(ask_all(line + [at(LATEST), units(), read()])[-3:], [[11], [11, 20, 30], [0]])

    def test_where_something_was_told(self):
        line = hand(10, 10, 3, sent("HI", 10)) + [at(900)]
        self.assertEqual(text_behind(line), "HI ")
        again = line + [begin(10, 10, 3)]
        self.assertEqual(text_behind(again), "")
        self.assertEqual(text_behind(again + [at(2000)]), "")
        self.assertEqual(text_behind(again + turns([30]) + [at(50)]), "T")

    def test_in_the_midst_of_a_letter(self):
        again = hand(10, 10, 3, [10, 10, 30, 10]) + [begin(10, 10, 3)]
        self.assertEqual(text_behind(again + turns([30, 30])), "T")

    def test_where_no_unit_may_be(self):
        line = hand(10, 10, 3, [20])
        self.assertIsNone(text_behind(line))
        self.assertEqual(ask_all(line + [begin(5, 6, 1), read(), units()])[-2:], [[0], [2, 5, 6]])

    def test_with_all_lengths(self):
        line = hand(10, 10, 3, [10, 30] * 512)
        self.assertEqual(text_behind(line), "E" * 512)
        self.assertEqual(text_behind(line + hand(10, 10, 3, [30, 30])), "T")


class BeginRefused(unittest.TestCase):
    WRONG = [begin(0, 5, 0), begin(10, 9, 0), begin(10, 4097, 0), begin(10, 20, 10)]

    def test_all_stays_as_it_was(self):
        line = hand(10, 20, 9, [15, 150, 15, 22, 15, 150]) + [at(380), at(410), up(417), at(450), at(500)]
        asked = [call for turn in line for call in (turn, read(), units())]
        plain = ask_all(asked)
        for place in range(1, len(asked) + 1):
            with self.subTest(place=place):
                told = ask_all(asked[:place] + self.WRONG + asked[place:])
                self.assertEqual(told[place:place + 4], [[-22]] * 4)
                self.assertEqual(told[:place] + told[place + 4:], plain)

    def test_where_no_unit_may_be(self):
        line = hand(10, 10, 3, [20]) + self.WRONG
        self.assertIsNone(text_behind(line))
        self.assertEqual(units_behind(line), [0, 0, 0])


if __name__ == "__main__":
    unittest.main()
