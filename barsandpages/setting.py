"""Calls on one paper and its bars, read from one list of numbers, and their answers as another."""

from barsandpages.lines import cost_of_line, refusal_of_line, widths_of_line
from barsandpages.music import NUMBERS_OF_A_BAR, OUT_OF_RANGE, PAPER_AT_BEGINNING
from barsandpages.music import Bar, Paper, Score, are_bars, is_paper
from barsandpages.pages import best_way, cost_of_pages, count_ways


def answer_begins(score, told):
    score.paper = Paper(PAPER_AT_BEGINNING)
    score.bars = []
    return [0]


def answer_paper(score, told):
    if not is_paper(told):
        return [OUT_OF_RANGE]
    score.paper = Paper(told)
    return [0]


def read_bars(told):
    rows = []
    for number in range(told[0]):
        at = 1 + number * NUMBERS_OF_A_BAR
        rows.append(told[at:at + NUMBERS_OF_A_BAR])
    return rows


def answer_bars(score, told):
    rows = read_bars(told)
    if not are_bars(rows):
        return [OUT_OF_RANGE]
    score.bars = [Bar(row) for row in rows]
    return [len(rows)]


def answer_line(score, told):
    refusal = refusal_of_line(score, told[0], told[1])
    if refusal < 0:
        return [refusal]
    return [cost_of_line(score, told[0], told[1])]


def answer_spread(score, told):
    refusal = refusal_of_line(score, told[0], told[1])
    if refusal < 0:
        return [refusal]
    widths = widths_of_line(score, told[0], told[1])
    return [0, len(widths)] + widths


def answer_ways(score, told):
    counts = count_ways(score)
    return [0, len(counts)] + counts


def answer_best(score, told):
    found = best_way(score)
    answer = [found[0]]
    for page in found[1]:
        answer.append(len(page))
        answer.extend(page)
    return answer


def read_pages(told):
    pages = []
    at = 1
    for number in range(told[0]):
        behind = at + 1 + told[at]
        pages.append(told[at + 1:behind])
        at = behind
    return pages


def answer_check(score, told):
    return [cost_of_pages(score, read_pages(told))]


# In the order of the calls' numbers.
ANSWER_OF_CALL = (
    answer_begins,
    answer_paper,
    answer_bars,
    answer_line,
    answer_spread,
    answer_ways,
    answer_best,
    answer_check,
)


def answers(calls):
    """The answers to a list of calls: for each, in order, how many numbers it has, and these."""
    score = Score()
    answered = []
    at = 0
    while at < len(calls):
        # Ahead of each call stand a 0 and how many numbers it has.
        behind = at + 2 + calls[at + 1]
        call = calls[at + 2:behind]
        answer = ANSWER_OF_CALL[call[0]](score, call[1:])
        answered.append(len(answer))
        answered.extend(answer)
        at = behind
    return answered
