"""Promise 4: line and spread."""

import random
import unittest

from asking import ask, ask_last, bar, bars, best, line, paper, spread, ways

HUGE = 4294967295
LAST = bar(1, 1)


def cost(rows, i, j, told=None):
    return ask_last(told or paper(), bars(*rows), line(i, j))


def widths(rows, i, j, told=None):
    answer = ask_last(told or paper(), bars(*rows), spread(i, j))
    assert answer[0] == 0 and answer[1] == len(answer) - 2
    return answer[2:]


class LineTest(unittest.TestCase):
    def test_stretched(self):
        self.assertEqual(cost([bar(20, 30), LAST], 0, 1), [10 + 100 * 70 * 70 // 30])
        self.assertEqual(cost([bar(20, 30), bar(20, 31), LAST], 0, 2), [10 + 100 * 39 * 39 // 61])
        self.assertEqual(cost([LAST, bar(20, 30), bar(20, 31), LAST], 1, 3), [10 + 100 * 39 * 39 // 61])

    def test_just_full(self):
        self.assertEqual(cost([bar(20, 60), bar(20, 40), LAST], 0, 2), [10])

    def test_squeezed(self):
        self.assertEqual(cost([bar(30, 60), bar(31, 60), LAST], 0, 2), [10 + 200 * 20 * 20 // 59])
        self.assertEqual(cost([bar(50, 60), bar(50, 60), LAST], 0, 2), [10 + 200 * 20 * 20 // 20])
        self.assertEqual(cost([bar(100, 101), LAST], 0, 1), [10 + 200])

    def test_rounded_once_and_down(self):
        # 3 times 50 squared by 40 is 187.5, and 3 times what is rounded before would be 186.
        self.assertEqual(cost([bar(20, 40), LAST], 0, 1, paper(width=90, stretching=3)), [197])
        # 7 times 10 squared by 80 is 8.75, and 7 times what is rounded before would be 7.
        self.assertEqual(cost([bar(20, 100), LAST], 0, 1, paper(width=90, squeezing=7)), [18])

    def test_the_heads_room_is_taken_off_only_where_the_line_begins(self):
        rows = [bar(20, 30, 13), bar(20, 31, 29), LAST]
        self.assertEqual(cost(rows, 0, 2), [10 + 100 * 26 * 26 // 61])
        self.assertEqual(cost(rows, 1, 2), [10 + 100 * 40 * 40 // 31])

    def test_the_last_line_isnt_stretched_but_squeezed(self):
        self.assertEqual(cost([bar(20, 30), bar(20, 31)], 0, 2), [10])
        self.assertEqual(cost([bar(20, 30), bar(20, 31)], 1, 2), [10])
        self.assertEqual(cost([bar(30, 60), bar(31, 60)], 0, 2), [10 + 200 * 20 * 20 // 59])

    def test_no_such_bars(self):
        rows = bars(bar(20, 30), bar(20, 30), bar(20, 30))
        for i, j in ((0, 0), (2, 2), (3, 3), (2, 1), (3, 0), (0, 4), (3, 4), (4, 5), (0, HUGE), (HUGE, HUGE), (HUGE, 0)):
            self.assertEqual(ask(rows, line(i, j), spread(i, j))[1:], [[-2], [-2]], (i, j))
        self.assertEqual(ask(line(0, 0), spread(0, 1)), [[-2], [-2]])

    def test_they_dont_go(self):
        for rows, j in (
            ([bar(101, 101), LAST], 1), ([bar(50, 50), bar(51, 60)], 2), ([bar(50, 90, 51), LAST], 1),
            ([bar(1, 1, 100), LAST], 1), ([bar(1, 1, 1000), LAST], 1),
        ):
            self.assertEqual(ask(bars(*rows), line(0, j), spread(0, j))[1:], [[-7], [-7]], rows)

    def test_they_just_go(self):
        self.assertEqual(cost([bar(50, 50), bar(50, 60), LAST], 0, 2), [10 + 200 * 100 // 10])
        self.assertEqual(cost([bar(50, 50, 50), LAST], 0, 1), [10])
        self.assertEqual(cost([bar(1, 1, 99), LAST], 0, 1), [10])
        self.assertEqual(cost([bar(50, 50), bar(50, 50, 1000), LAST], 0, 2), [10])

    def test_such_a_line_may_not_be(self):
        for ends, i, j in (
            ((2, 0, 0, 0), 0, 2), ((3, 0, 0, 0), 0, 2), ((0, 2, 0, 0), 0, 4), ((0, 0, 3, 0), 1, 4),
            ((1, 0, 0, 0), 0, 1), ((0, 0, 1, 0), 1, 3), ((2, 1, 0, 0), 0, 2),
        ):
            rows = bars(*[bar(5, 10, 0, 0, end) for end in ends])
            self.assertEqual(ask(rows, line(i, j), spread(i, j))[1:], [[-8], [-8]], (ends, i, j))

    def test_such_a_line_may_be(self):
        for ends, i, j in (
            ((2, 0, 0, 0), 0, 1), ((3, 0, 0, 0), 0, 1), ((2, 0, 0, 0), 1, 3), ((1, 0, 0, 0), 0, 2),
            ((1, 1, 1, 0), 0, 4), ((0, 0, 2, 0), 0, 3), ((0, 1, 3, 0), 0, 3), ((0, 0, 0, 2), 0, 4),
        ):
            rows = bars(*[bar(25, 25, 0, 0, end) for end in ends])
            self.assertGreaterEqual(ask(rows, line(i, j))[1][0], 10, (ends, i, j))
            self.assertEqual(ask(rows, spread(i, j))[1][:2], [0, j - i], (ends, i, j))

    def test_how_the_last_bar_of_all_ends_doesnt_matter(self):
        for end in range(4):
            rows = bars(bar(5, 10), bar(5, 10, 0, 0, end))
            self.assertEqual(ask(rows, line(0, 2), spread(1, 2), ways())[1:], [[10], [0, 1, 10], [0, 2, 3, 1]])

    def test_of_several_refusals_the_first(self):
        no_end = bars(bar(60, 60, 0, 0, 2), bar(60, 60, 0, 0, 1), LAST)
        self.assertEqual(ask(no_end, line(0, 2), spread(0, 2))[1:], [[-7], [-7]])
        self.assertEqual(ask(no_end, line(0, 4), spread(0, 4))[1:], [[-2], [-2]])
        self.assertEqual(ask(no_end, line(1, 2), spread(1, 2))[1:], [[-8], [-8]])

    def test_after_a_refusal_all_is_as_it_was(self):
        rows = bars(bar(60, 70, 0, 0, 1), bar(40, 60), bar(20, 40))
        told = [line(0, 2), spread(0, 2), spread(2, 3), ways(), best()]
        wrong = [line(0, 3), spread(0, 3), line(0, 1), spread(0, 1), line(1, 1), spread(0, 9)]
        asked = ask(rows, *told, *wrong, *told)
        self.assertEqual(asked[6:12], [[-7], [-7], [-8], [-8], [-2], [-2]])
        self.assertEqual(asked[12:], asked[1:6])


def dealt(amount, weights):
    """The amount shared by weight, what is left over dealt one by one."""
    whole = sum(weights)
    parts = [amount * weight // whole for weight in weights]
    rests = [amount * weight - whole * part for weight, part in zip(weights, parts)]
    while sum(parts) < amount:
        place = rests.index(max(rests))
        parts[place] += 1
        rests[place] = -1
    return parts


class SpreadTest(unittest.TestCase):
    def test_shared_by_what_they_wish(self):
        self.assertEqual(widths([bar(1, 10), bar(1, 40), LAST], 0, 2), [20, 80])
        self.assertEqual(widths([bar(1, 10, 50), bar(1, 15), LAST], 0, 2), [20, 30])
        self.assertEqual(widths([LAST, bar(1, 7), LAST], 1, 2), [100])

    def test_left_over_goes_where_most_was_left(self):
        self.assertEqual(widths([bar(1, 10), bar(1, 20), LAST], 0, 2), [33, 67])
        self.assertEqual(widths([bar(1, 20), bar(1, 10), LAST], 0, 2), [67, 33])
        self.assertEqual(widths([bar(1, 10), bar(1, 20), bar(1, 30), LAST], 0, 3), [17, 33, 50])

    def test_left_over_goes_to_the_first_of_alike_ones(self):
        self.assertEqual(widths([bar(1, 30), bar(1, 30), bar(1, 30), LAST], 0, 3), [34, 33, 33])
        self.assertEqual(widths([bar(1, 30, 2), bar(1, 30), bar(1, 30), LAST], 0, 3), [33, 33, 32])
        self.assertEqual(widths([bar(1, 30), bar(1, 20), bar(1, 30), LAST], 0, 3), [38, 25, 37])

    def test_nothing_to_share(self):
        self.assertEqual(widths([bar(1, 60), bar(1, 40), LAST], 0, 2), [60, 40])

    def test_with_the_last_bar_of_all_nothing_is_shared(self):
        rows = [bar(1, 10), bar(1, 20), bar(1, 30)]
        self.assertEqual(widths(rows, 0, 3), [10, 20, 30])
        self.assertEqual(widths(rows, 2, 3), [30])
        self.assertEqual(widths([bar(1, 60), bar(1, 40)], 0, 2), [60, 40])

    def test_taken_by_how_much_wished_is_more_than_least(self):
        rows = [bar(10, 40), bar(30, 40), bar(40, 40)]
        self.assertEqual(widths(rows + [LAST], 0, 3), [25, 35, 40])
        self.assertEqual(widths([bar(30, 80), bar(70, 90), LAST], 0, 2), [30, 70])

    def test_left_over_is_taken_where_most_was_left(self):
        self.assertEqual(widths([bar(10, 40), bar(20, 40), bar(30, 40), LAST], 0, 3), [30, 33, 37])
        self.assertEqual(widths([bar(20, 34), bar(20, 34), bar(20, 34), LAST], 0, 3), [33, 33, 34])
        self.assertEqual(widths([bar(34, 34), bar(20, 34), bar(20, 34), LAST], 0, 3), [34, 33, 33])
        self.assertEqual(widths([bar(34, 34), bar(20, 34), bar(20, 33), LAST], 0, 3), [34, 33, 33])

    def test_taken_with_the_last_bar_of_all_too(self):
        self.assertEqual(widths([bar(10, 40), bar(20, 40), bar(30, 40)], 0, 3), [30, 33, 37])

    def test_many_lines_are_filled_as_told(self):
        source = random.Random(4)
        kinds = {"shared": 0, "taken": 0}
        for turn in range(400):
            rows = []
            for number in range(source.randint(2, 9)):
                least = source.randint(1, 30)
                rows.append(bar(least, least + source.randint(0, 40), source.randint(0, 20)))
            told = paper(width=source.randint(40, 300))
            j = source.randint(1, len(rows) - 1)
            room = told[1] - rows[0][2]
            wished = [row[1] for row in rows[:j]]
            least = [row[0] for row in rows[:j]]
            if sum(least) > room:
                self.assertEqual(ask_last(told, bars(*rows), spread(0, j)), [-7])
                continue
            found = widths(rows, 0, j, told)
            self.assertEqual(sum(found), room)
            if sum(wished) <= room:
                kinds["shared"] += 1
                parts = dealt(room - sum(wished), wished)
                self.assertEqual(found, [width + part for width, part in zip(wished, parts)])
            else:
                kinds["taken"] += 1
                parts = dealt(sum(wished) - room, [row[1] - row[0] for row in rows[:j]])
                self.assertEqual(found, [width - part for width, part in zip(wished, parts)])
                self.assertTrue(all(width >= low for width, low in zip(found, least)))
        self.assertGreater(min(kinds.values()), 50)


if __name__ == "__main__":
    unittest.main()
