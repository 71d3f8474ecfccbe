"""The largest that is handed in: 24 bars, 60 calls."""

import math
import random
import time
import unittest

from asking import ask, bar, bars, best, check, line, packed, pages_of, paper, spread, ways
from barsandpages.setting import answers

SECONDS = 10


def splits(count, most):
    """How many ways there are to part so many into ones from 1 to most, in order."""
    found = [1]
    for number in range(1, count + 1):
        found.append(sum(found[max(0, number - most):]))
    return found[count]


class LargestTest(unittest.TestCase):
    def ask_in_time(self, *calls):
        self.assertLessEqual(len(calls), 60)
        begun = time.perf_counter()
        found = ask(*calls)
        self.assertLess(time.perf_counter() - begun, SECONDS)
        return found

    def test_all_ways_of_24_bars(self):
        free = paper(1000, 6, 1, 0, 0, 0, 0, 0)
        rows = bars(*[bar(1, 1)] * 24)
        pages = [[1] * 6] * 4
        found = self.ask_in_time(free, rows, *[ways(), best(), check(pages)] * 19, ways())
        many = sum(math.comb(23, lines - 1) * splits(lines, 6) for lines in range(1, 25))
        self.assertEqual(found[2], [0, 2, many, many])
        self.assertEqual(found[3], [0] + [6, 1, 1, 1, 1, 1, 1] * 4)
        self.assertEqual(found[4], [0])
        self.assertEqual(found[2:], found[2:5] * 19 + [found[2]])

    def test_each_lines_number_counts(self):
        rows = bars(*[bar(500, 1000)] * 24)
        for lines in range(1, 7):
            asked = ask(paper(1000, lines, 0, 0, 0, 0, 0, 0), rows, ways())
            two_on_some = sum(math.comb(used, 24 - used) * splits(used, lines) for used in range(12, 25))
            self.assertEqual(asked[2], [0, 2, two_on_some, two_on_some])

    def test_dearest_of_all(self):
        dear = paper(1000, 6, 1, 1000, 1000, 1000, 1000, 1000)
        rows = bars(*[bar(1, 1, 0, 1000, 3)] * 24)
        found = self.ask_in_time(dear, rows, *[ways(), best(), check([[1]] * 24)] * 19)
        line_cost = 1000 + 1000 * 999 * 999
        wanted = 23 * line_cost + 1000 + 24 * 1000 + 23 * 25 * 1000 + 12 * 1000
        self.assertEqual(found[2:5], [[0, 2, 1, 1], [wanted] + [1, 1] * 24, [wanted]])

    def test_best_and_check_agree_on_24_bars(self):
        source = random.Random(5)
        for turn in range(10):
            rows = []
            for number in range(24):
                least = source.randint(1, 30)
                rows.append(bar(least, least + source.randint(0, 40), 5, source.randint(0, 1000), source.choice((0, 0, 0, 1))))
            told = paper(source.randint(120, 400), source.randint(1, 6), turn % 2)
            counted, found = ask(told, bars(*rows), ways(), best())[2:]
            self.assertGreater(counted[2], 0)
            self.assertEqual(ask(told, bars(*rows), check(pages_of(found)))[2], found[:1])

    def test_longest_calls(self):
        rows = bars(*[bar(1, 1000)] * 24)
        full = check([[60] * 60] * 60)
        self.assertLessEqual(len(full), 4000)
        calls = packed([rows] + [full] * 7)
        self.assertLessEqual(len(calls), 30000)
        begun = time.perf_counter()
        self.assertEqual(answers(calls), [1, 24] + [1, -3] * 7)
        self.assertLess(time.perf_counter() - begun, SECONDS)

    def test_widest_line(self):
        rows = bars(*[bar(1, 1000)] * 24)
        asked = ask(paper(width=1000), rows, line(0, 24), spread(0, 24))
        self.assertEqual(asked[2], [10 + 200 * 23000 * 23000 // 23976])
        self.assertEqual(asked[3][2:], [41] * 8 + [42] * 16)


if __name__ == "__main__":
    unittest.main()
