"""Promises 1 to 3: begins, paper, bars."""

import unittest

from asking import ask, ask_last, bar, bars, begins, best, line, paper, spread, ways

HUGE = 4294967295
SOME = bars(
    bar(20, 30, 5, 7, 0), bar(20, 40, 3, 20, 0), bar(30, 50, 9, 4, 0), bar(10, 20, 1, 6, 1),
    bar(30, 60, 2, 90, 2), bar(5, 30, 4, 1, 0), bar(40, 90, 8, 2, 3), bar(20, 20, 0, 0, 0),
)
OTHER_PAPER = paper(110, 2, 0, 3, 70, 11, 13, 17)


def probes():
    """Calls whose answers tell the paper's eight numbers and the bars apart from others."""
    lines = [line(i, j) for i in range(8) for j in (i + 1, i + 2)]
    return lines + [line(0, 9), spread(0, 2), spread(1, 3), ways(), best()]


class BeginsTest(unittest.TestCase):
    def test_at_the_beginning_there_are_no_bars(self):
        self.assertEqual(ask(ways(), best(), line(0, 1)), [[0, 2, 1, 1], [0], [-2]])

    def test_at_the_beginning_paper_is_as_told(self):
        told = ask(SOME, *probes())[1:]
        self.assertEqual(told, ask(SOME, paper(100, 4, 1, 100, 200, 10, 50, 5), *probes())[2:])

    def test_papers_at_the_beginning_by_hand(self):
        one = bar(10, 25)
        self.assertEqual(ask_last(bars(one, one), line(0, 1)), [100 * 75 * 75 // 25 + 10])
        self.assertEqual(ask_last(bars(bar(60, 140), one), line(0, 1)), [200 * 40 * 40 // 80 + 10])
        # The last line costs 10, its page 50; the page before 50, 5 times 3 squared, and its turn.
        two = bars(bar(60, 100, 0, 9, 3), bar(60, 100))
        self.assertEqual(ask_last(two, best()), [10 + 50 + 45 + 9 + 10 + 50, 1, 1, 1, 1])
        self.assertEqual(ask_last(bars(*[bar(60, 100)] * 5), ways()), [0, 2, 15, 1])

    def test_begins_sets_all_back(self):
        self.assertEqual(ask(begins()), [[0]])
        asked = ask(OTHER_PAPER, SOME, begins(), ways(), line(0, 1), best(), SOME, *probes())
        self.assertEqual(asked[2:6], [[0], [0, 2, 1, 1], [-2], [0]])
        self.assertEqual(asked[7:], ask(SOME, *probes())[1:])


class PaperTest(unittest.TestCase):
    def test_each_number_counts(self):
        usual = ask(SOME, *probes())[1:]
        for told in (
            paper(width=110), paper(lines=3), paper(right_first=0), paper(stretching=99),
            paper(squeezing=201), paper(line=11), paper(page=51), paper(empty=6),
        ):
            asked = ask(SOME, told, *probes())
            self.assertEqual(asked[1], [0])
            self.assertNotEqual(asked[2:], usual, told)

    def test_prices_by_hand(self):
        told = paper(90, 3, 1, 7, 13, 2, 17, 19)
        one = bar(10, 40)
        self.assertEqual(ask_last(told, bars(one, one), line(0, 1)), [7 * 50 * 50 // 40 + 2])
        self.assertEqual(ask_last(told, bars(bar(60, 140), one), line(0, 1)), [13 * 50 * 50 // 80 + 2])
        two = bars(bar(60, 90, 0, 23, 3), bar(60, 90))
        self.assertEqual(ask_last(told, two, best()), [2 + 17 + 19 * 4 + 23 + 2 + 17, 1, 1, 1, 1])
        told[3] = 0
        self.assertEqual(ask_last(told, two, best()), [2 + 17 + 19 * 4 + 2 + 17, 1, 1, 1, 1])

    def test_ends_of_ranges_are_taken(self):
        self.assertEqual(ask(paper(1, 1, 0, 0, 0, 0, 0, 0)), [[0]])
        self.assertEqual(ask(paper(1000, 6, 1, 1000, 1000, 1000, 1000, 1000)), [[0]])

    def test_out_of_range_is_refused_and_all_is_as_it_was(self):
        before = ask(OTHER_PAPER, SOME, *probes())[2:]
        wrong = [(1, 0), (1, 1001), (1, HUGE), (2, 0), (2, 7), (2, HUGE)]
        for place in range(4, 9):
            wrong += [(place, 1001), (place, HUGE)]
        for place, number in wrong:
            told = paper(90, 3, 1, 5, 6, 7, 8, 9)
            told[place] = number
            asked = ask(OTHER_PAPER, SOME, told, *probes())
            self.assertEqual(asked[2], [-1], told)
            self.assertEqual(asked[3:], before, told)

    def test_bars_stay(self):
        self.assertEqual(ask_last(bars(bar(5, 9)), paper(50), spread(0, 1)), [0, 1, 9])


class BarsTest(unittest.TestCase):
    def test_how_many(self):
        for count in range(25):
            self.assertEqual(ask(bars(*[bar(1, 2)] * count)), [[count]])

    def test_they_take_the_place_of_those_before(self):
        asked = ask(SOME, bars(bar(5, 9), bar(6, 8)), line(0, 3), spread(0, 2), bars(), ways(), line(0, 1))
        self.assertEqual(asked[2:], [[-2], [0, 2, 9, 8], [0], [0, 2, 1, 1], [-2]])

    def test_ends_of_ranges_are_taken(self):
        for row in (
            bar(1, 1), bar(1, 1000), bar(1000, 1000), bar(5, 5), bar(1, 1, 1000, 1000, 3),
            bar(1, 1, 0, 0, 1), bar(1, 1, 0, 0, 2),
        ):
            self.assertEqual(ask(bars(row)), [[1]], row)

    def test_what_is_no_bar_is_refused_and_all_is_as_it_was(self):
        before = ask(OTHER_PAPER, SOME, *probes())[2:]
        good = bar(2, 3)
        for row in (
            bar(0, 0), bar(0, 5), bar(6, 5), bar(1, 1001), bar(1001, 1001), bar(1001, 1000), bar(5, 0),
            bar(1, 1, 1001), bar(1, 1, 0, 1001), bar(1, 1, 0, 0, 4),
            bar(HUGE, HUGE), bar(1, HUGE), bar(1, 1, HUGE), bar(1, 1, 0, HUGE), bar(1, 1, 0, 0, HUGE),
        ):
            for rows in ((row,), (row, good), (good, good, row)):
                asked = ask(OTHER_PAPER, SOME, bars(*rows), *probes())
                self.assertEqual(asked[2], [-1], rows)
                self.assertEqual(asked[3:], before, rows)

    def test_more_than_24_are_refused_and_all_is_as_it_was(self):
        before = ask(OTHER_PAPER, SOME, *probes())[2:]
        for count in (25, 26, 60):
            asked = ask(OTHER_PAPER, SOME, bars(*[bar(1, 2)] * count), *probes())
            self.assertEqual(asked[2], [-1])
            self.assertEqual(asked[3:], before)


if __name__ == "__main__":
    unittest.main()
