"""Bars and paper: what is kept of them, and which numbers may stand for them."""

MOST_BARS = 24
MOST_LINES = 6
MOST = 1000

FREE_END = 0
NO_LINE_END = 1
LINE_END = 2
PAGE_END = 3

NUMBERS_OF_A_BAR = 5
PAPER_AT_BEGINNING = (100, 4, 1, 100, 200, 10, 50, 5)

OUT_OF_RANGE = -1


class Bar:
    """One bar, told by its five numbers."""

    def __init__(self, numbers):
        self.least = numbers[0]
        self.wished = numbers[1]
        self.head = numbers[2]
        self.turn = numbers[3]
        self.ends = numbers[4]


class Paper:
    """The paper, told by its eight numbers."""

    def __init__(self, numbers):
        self.width = numbers[0]
        self.lines = numbers[1]
        self.right_first = numbers[2]
        self.stretching = numbers[3]
        self.squeezing = numbers[4]
        self.line_price = numbers[5]
        self.page_price = numbers[6]
        self.empty_price = numbers[7]


class Score:
    """What the calls of one list are about: a paper and its bars."""

    def __init__(self):
        self.paper = Paper(PAPER_AT_BEGINNING)
        self.bars = []


def is_within(number, low, high):
    return low <= number and number <= high


def is_paper(numbers):
    if not is_within(numbers[0], 1, MOST) or not is_within(numbers[1], 1, MOST_LINES):
        return False
    return is_within(numbers[2], 0, 1) and all([is_within(price, 0, MOST) for price in numbers[3:]])


def is_bar(numbers):
    least = numbers[0]
    wished = numbers[1]
    if not is_within(least, 1, wished) or wished > MOST:
        return False
    if not is_within(numbers[2], 0, MOST) or not is_within(numbers[3], 0, MOST):
        return False
    return is_within(numbers[4], FREE_END, PAGE_END)


def are_bars(rows):
    return len(rows) <= MOST_BARS and all([is_bar(row) for row in rows])
