"""Promises 5 to 7: ways, best, check, against all ways written out one by one."""

import functools
import itertools
import random
import unittest

from asking import ask, ask_last, bar, bars, best, check, pages_of, paper, ways


def all_pages(count):
    """All that could be a way to set so many bars: behind each bar but the last nothing, a line or a page ends."""
    if count == 0:
        return [[]]
    found = []
    for ends in itertools.product((0, 1, 2), repeat=count - 1):
        pages = [[1]]
        for end in ends:
            if end == 0:
                pages[-1][-1] += 1
            elif end == 1:
                pages[-1].append(1)
            else:
                pages.append([1])
        found.append(pages)
    return found


def line_cost(told, rows, i, j):
    """What a line costs; None if it may not be."""
    width, stretching, squeezing, price = told[1], told[4], told[5], told[6]
    least = sum(row[0] for row in rows[i:j])
    wished = sum(row[1] for row in rows[i:j])
    room = width - rows[i][2]
    if least > room or any(row[4] in (2, 3) for row in rows[i:j - 1]):
        return None
    if j < len(rows) and rows[j - 1][4] == 1:
        return None
    if wished > room:
        return price + squeezing * (wished - room) ** 2 // (wished - least)
    if j == len(rows):
        return price
    return price + stretching * (room - wished) ** 2 // wished


def way_cost(told, rows, pages):
    """What these pages cost, on which all bars stand; None if they are no way."""
    lines, right_first, price, empty = told[2], told[3], told[7], told[8]
    total = 0
    at = 0
    for number, page in enumerate(pages):
        if len(page) > lines:
            return None
        for place, length in enumerate(page):
            cost = line_cost(told, rows, at, at + length)
            if cost is None:
                return None
            total += cost
            at += length
            if place < len(page) - 1 and rows[at - 1][4] == 3:
                return None
        total += price
        if number < len(pages) - 1:
            total += empty * (lines - len(page)) ** 2
            if number % 2 == 1 - right_first:
                total += rows[at - 1][3]
    return total


def told_lines(pages):
    return [(length, place < len(page) - 1) for page in pages for place, length in enumerate(page)]


def comes_first(one, other):
    """Below 0 if the one way comes ahead of the other by the document's order."""
    for (length, follows), (other_length, other_follows) in zip(told_lines(one), told_lines(other)):
        if length != other_length:
            return length - other_length
        if follows != other_follows:
            return -1 if follows else 1
    return 0


def random_paper(source):
    prices = [source.choice((0, 1, 3, 20)) for number in range(5)]
    return paper(source.randint(12, 60), source.randint(1, 6), source.randint(0, 1), *prices)


def random_bars(source, most):
    rows = []
    for number in range(source.randint(0, most)):
        least = source.randint(1, 15)
        end = source.choice((0, 0, 0, 0, 0, 1, 2, 3))
        rows.append(bar(least, least + source.randint(0, 15), source.choice((0, 0, 4, 9)), source.randint(0, 5), end))
    return rows


def alike_bars(source, most):
    return [bar(5, 10, 0, 0, source.choice((0, 0, 0, 3)))] * source.randint(1, most)


class EveryWayTest(unittest.TestCase):
    def compare(self, told, rows):
        """How many ways there are, after all answers are as the ways written out have them."""
        costs = [(way_cost(told, rows, pages), pages) for pages in all_pages(len(rows))]
        real = [(cost, pages) for cost, pages in costs if cost is not None]
        least = min([cost for cost, pages in real], default=None)
        cheapest = sorted([pages for cost, pages in real if cost == least], key=functools.cmp_to_key(comes_first))
        counted, found = ask(told, bars(*rows), ways(), best())[2:]
        self.assertEqual(counted, [0, 2, len(real), len(cheapest)], (told, rows))
        if not real:
            self.assertEqual(found, [-6], (told, rows))
        else:
            self.assertEqual(found[0], least, (told, rows))
            self.assertEqual(pages_of(found), cheapest[0], (told, rows))
            self.assertEqual(ask_last(told, bars(*rows), check(pages_of(found))), [least])
        asked = []
        for at in range(0, len(costs), 50):
            asked += ask(told, bars(*rows), *[check(pages) for cost, pages in costs[at:at + 50]])[2:]
        self.assertEqual(asked, [[-3 if cost is None else cost] for cost, pages in costs], (told, rows))
        return len(real), len(cheapest)

    def test_mixed_bars(self):
        source = random.Random(1)
        seen = [self.compare(random_paper(source), random_bars(source, 6)) for turn in range(800)]
        self.assertGreater(len([real for real, cheapest in seen if real == 0]), 20)
        self.assertGreater(len([real for real, cheapest in seen if real > 10]), 20)
        self.assertGreater(len([real for real, cheapest in seen if cheapest > 1]), 20)

    def test_bars_and_costs_alike(self):
        source = random.Random(2)
        for turn in range(40):
            told = random_paper(source)
            told[4:] = [0, 0, source.randint(0, 1), source.randint(0, 2), source.randint(0, 1)]
            self.compare(told, alike_bars(source, 6))

    def test_more_bars(self):
        source = random.Random(3)
        for turn in range(5):
            rows = [bar(5, 10 + source.randint(0, 3), 0, source.randint(0, 30)) for number in range(8)]
            self.compare(paper(40, 3, turn % 2, 10, 20, 5, 7, 3), rows)


class WaysTest(unittest.TestCase):
    def test_without_bars_there_is_one_way_of_no_pages(self):
        self.assertEqual(ask(ways(), best(), check([])), [[0, 2, 1, 1], [0], [0]])
        self.assertEqual(ask(bars(bar(1, 1)), bars(), ways(), best(), check([]))[2:], [[0, 2, 1, 1], [0], [0]])
        for pages in ([[]], [[], []], [[0]], [[1]], [[1], []]):
            self.assertEqual(ask(check(pages)), [[-3]], pages)

    def test_one_bar(self):
        self.assertEqual(ask(bars(bar(5, 9)), ways(), best(), check([[1]]))[1:], [[0, 2, 1, 1], [60, 1, 1], [60]])

    def test_without_any_way(self):
        for rows in (
            [bar(101, 101)], [bar(5, 9), bar(5, 9, 96)][1:], [bar(60, 60, 0, 0, 1), bar(60, 60)],
            [bar(5, 9), bar(99, 99, 2), bar(5, 9)],
        ):
            self.assertEqual(ask(bars(*rows), ways(), best(), check([[len(rows)]]))[1:], [[0, 2, 0, 0], [-6], [-3]])

    def test_after_a_refusal_all_is_as_it_was(self):
        rows = bars(bar(60, 70), bar(60, 70), bar(101, 101))
        asked = ask(rows, best(), check([[1]]), paper(width=101), check([[1], []]), best())
        self.assertEqual(asked, ask(rows, best(), check([[1]]), paper(width=101), check([[2]]), best()))
        self.assertEqual([answer[0] for answer in asked[:5]], [3, -6, -3, 0, -3])
        self.assertEqual(asked[5][1:], [3, 1, 1, 1])


class BestTest(unittest.TestCase):
    def test_of_alike_ones_fewer_bars_come_first(self):
        free = paper(100, 6, 1, 0, 0, 0, 0, 0)
        self.assertEqual(ask_last(free, bars(*[bar(5, 10)] * 4), best()), [0, 4, 1, 1, 1, 1])
        self.assertEqual(ask_last(free, bars(bar(5, 10, 0, 0, 1), *[bar(5, 10)] * 3), best()), [0, 3, 2, 1, 1])

    def test_of_alike_ones_a_line_that_another_follows_comes_first(self):
        free = paper(100, 2, 1, 0, 0, 0, 0, 0)
        self.assertEqual(ask_last(free, bars(*[bar(5, 10)] * 3), best()), [0, 2, 1, 1, 1, 1])

    def test_turns_are_behind_right_hand_pages(self):
        rows = bars(bar(90, 100, 0, 9), bar(90, 100, 0, 500), bar(90, 100, 0, 2), bar(90, 100))
        pages = [[1], [1], [1], [1]]
        right = paper(100, 1, 1, 0, 0, 1, 10, 0)
        left = paper(100, 1, 0, 0, 0, 1, 10, 0)
        self.assertEqual(ask_last(right, rows, check(pages)), [44 + 9 + 2])
        self.assertEqual(ask_last(left, rows, check(pages)), [44 + 500])
        self.assertEqual(ask_last(right, rows, best())[0], 55)

    def test_a_turn_can_be_worth_empty_room(self):
        rows = bars(bar(90, 100, 0, 0), bar(90, 100, 0, 900), bar(90, 100))
        self.assertEqual(ask_last(paper(lines=2), rows, best()), [30 + 100 + 5, 1, 1, 2, 1, 1])
        self.assertEqual(ask_last(paper(lines=2, right_first=0), rows, best()), [30 + 100, 2, 1, 1, 1, 1])

    def test_a_page_ends_where_it_must_and_empty_room_costs(self):
        rows = bars(bar(90, 100, 0, 3, 3), bar(90, 100, 0, 0, 2), bar(90, 100, 0, 7, 3))
        self.assertEqual(ask(rows, ways(), best())[1:], [[0, 2, 2, 1], [30 + 100 + 45 + 3, 1, 1, 2, 1, 1]])

    def test_the_last_page_has_no_empty_room_and_no_turn(self):
        rows = bars(bar(90, 100, 0, 1000))
        self.assertEqual(ask_last(rows, paper(lines=6, empty=1000), best()), [60, 1, 1])


class CheckTest(unittest.TestCase):
    def test_pages_that_are_no_way(self):
        rows = bars(*[bar(20, 30)] * 4)
        for pages in (
            [], [[]], [[4], []], [[], [4]], [[2], [], [2]], [[2]], [[2, 1]], [[4, 1]], [[4], [1]], [[5]],
            [[0, 4]], [[4, 0]], [[4], [0]], [[2, 0, 2]], [[1, 1, 1, 1, 0]], [[4294967295]], [[1, 4294967295]],
            [[1] * 60] * 60, [[]] * 60, [[0] * 60],
        ):
            self.assertEqual(ask(rows, check(pages))[1], [-3], pages)
        self.assertGreater(ask_last(rows, check([[4]]))[0], 0)

    def test_more_lines_than_a_page_may_have(self):
        rows = bars(*[bar(20, 30)] * 3)
        self.assertEqual(ask_last(rows, paper(lines=2), check([[1, 1, 1]])), [-3])
        self.assertGreater(ask_last(rows, paper(lines=3), check([[1, 1, 1]]))[0], 0)
        self.assertGreater(ask_last(rows, paper(lines=2), check([[1, 1], [1]]))[0], 0)

    def test_lines_that_may_not_be(self):
        rows = bars(bar(30, 30, 0, 0, 1), bar(30, 30, 0, 0, 2), bar(30, 30), bar(80, 80, 0, 0, 3), bar(30, 30))
        for pages in ([[1, 1, 1, 1, 1]], [[3, 1], [1]], [[2, 2], [1]], [[2, 1, 1, 1]], [[2, 1, 2]]):
            self.assertEqual(ask_last(rows, check(pages)), [-3], pages)
        self.assertGreater(ask_last(rows, check([[2, 1, 1], [1]]))[0], 0)

    def test_by_hand(self):
        rows = bars(bar(20, 30, 5, 11), bar(20, 40, 0, 13), bar(20, 60), bar(30, 70, 10))
        wanted = 10 + 100 * 25 * 25 // 70 + 50 + 5 * 9 + 13
        wanted += 10 + 200 * 30 * 30 // 80 + 50
        self.assertEqual(ask_last(rows, check([[2], [2]])), [wanted])


if __name__ == "__main__":
    unittest.main()
