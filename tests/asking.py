"""What the tests need to write calls and to read answers."""

from barsandpages.setting import answers


def begins():
    return [0]


def paper(width=100, lines=4, right_first=1, stretching=100, squeezing=200, line=10, page=50, empty=5):
    """The paper as at a list's beginning, but for what is told otherwise."""
    return [1, width, lines, right_first, stretching, squeezing, line, page, empty]


def bars(*rows):
    return [2, len(rows)] + [number for row in rows for number in row]


def line(i, j):
    return [3, i, j]


def spread(i, j):
    return [4, i, j]


def ways():
    return [5]


def best():
    return [6]


def check(pages):
    told = [7, len(pages)]
    for page in pages:
        told += [len(page)] + list(page)
    return told


def bar(least, wished, head=0, turn=0, ends=0):
    return (least, wished, head, turn, ends)


def packed(calls):
    numbers = []
    for call in calls:
        numbers += [0, len(call)] + call
    return numbers


def unpacked(numbers):
    found = []
    at = 0
    while at < len(numbers):
        behind = at + 1 + numbers[at]
        found.append(numbers[at + 1:behind])
        at = behind
    assert at == len(numbers)
    return found


def ask(*calls):
    """The answers to these calls, each a list."""
    found = unpacked(answers(packed(calls)))
    assert len(found) == len(calls)
    return found


def ask_last(*calls):
    return ask(*calls)[-1]


def pages_of(answer):
    """The pages in best's answer."""
    pages = []
    at = 1
    while at < len(answer):
        behind = at + 1 + answer[at]
        pages.append(answer[at + 1:behind])
        at = behind
    return pages
