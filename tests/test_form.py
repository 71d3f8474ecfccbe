"""The interface: how calls are told and answered, and that nothing is changed or kept."""

import contextlib
import io
import sys
import unittest

from asking import ask, bar, bars, begins, best, check, line, packed, paper, spread, ways
from barsandpages.setting import answers

THREE = bars(bar(20, 30), bar(20, 40), bar(10, 50))


class Kept(list):
    """A list that can't be changed."""

    def refuse(self, *args, **kwargs):
        raise AssertionError("the list that was handed in was changed")

    append = extend = insert = pop = remove = clear = reverse = sort = refuse
    __setitem__ = __delitem__ = __iadd__ = __imul__ = refuse


def all_calls():
    return packed([
        THREE, paper(lines=2), line(0, 2), spread(0, 2), ways(), best(), check([[1, 2]]),
        line(3, 3), check([[]]), bars(*[bar(1, 1)] * 25), paper(width=0), begins(), best(),
    ])


class FormTest(unittest.TestCase):
    def test_each_answer_has_its_length_ahead(self):
        self.assertEqual(answers([0, 1, 0]), [1, 0])
        self.assertEqual(answers([0, 9, 1, 100, 4, 1, 100, 200, 10, 50, 5]), [1, 0])
        self.assertEqual(answers([0, 2, 2, 0]), [1, 0])
        self.assertEqual(answers([0, 7, 2, 1, 20, 30, 0, 0, 0]), [1, 1])
        self.assertEqual(answers([0, 3, 3, 0, 1]), [1, -2])
        self.assertEqual(answers([0, 3, 4, 0, 1]), [1, -2])
        self.assertEqual(answers([0, 1, 5]), [4, 0, 2, 1, 1])
        self.assertEqual(answers([0, 1, 6]), [1, 0])
        self.assertEqual(answers([0, 2, 7, 0]), [1, 0])

    def test_calls_follow_one_another(self):
        calls = [0, 7, 2, 1, 20, 30, 0, 0, 0, 0, 3, 3, 0, 1, 0, 3, 4, 0, 1, 0, 1, 5, 0, 1, 6, 0, 4, 7, 1, 1, 1]
        wanted = [1, 1, 1, 10, 3, 0, 1, 30, 4, 0, 2, 1, 1, 3, 60, 1, 1, 1, 60]
        self.assertEqual(answers(calls), wanted)

    def test_best_tells_each_page_with_its_length(self):
        asked = ask(THREE, paper(width=50, lines=2, right_first=0), best())
        self.assertEqual(asked[2][1:], [2, 1, 1, 1, 1])

    def test_what_is_handed_in_is_not_changed(self):
        calls = all_calls()
        copied = list(calls)
        answers(calls)
        self.assertEqual(calls, copied)

    def test_what_is_handed_in_is_not_changed_for_a_while(self):
        self.assertEqual(answers(Kept(all_calls())), answers(all_calls()))

    def test_nothing_is_kept_from_one_time_to_the_next(self):
        calls = all_calls()
        first = answers(calls)
        self.assertEqual(answers(calls), first)
        answers(packed([paper(width=7), THREE]))
        self.assertEqual(answers(packed([ways()])), [4, 0, 2, 1, 1])
        self.assertEqual(answers(calls), first)

    def test_what_is_given_back_is_the_callers(self):
        calls = packed([THREE, best(), ways(), spread(0, 3)])
        first = answers(calls)
        copied = list(first)
        first.clear()
        self.assertEqual(answers(calls), copied)

    def test_answers_are_whole_numbers(self):
        found = answers(all_calls())
        self.assertIs(type(found), list)
        self.assertEqual({type(number) for number in found}, {int})

    def test_it_prints_and_reads_nothing(self):
        said = io.StringIO()
        usual = sys.stdin
        sys.stdin = None
        try:
            with contextlib.redirect_stdout(said), contextlib.redirect_stderr(said):
                answers(all_calls())
        finally:
            sys.stdin = usual
        self.assertEqual(said.getvalue(), "")


if __name__ == "__main__":
    unittest.main()
