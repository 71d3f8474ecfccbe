"""Ways to set all bars on pages: how many there are, the first of the best, what one costs.

A place in a way is told by three numbers: the bar that comes next, how many
lines stand on the page already, and whether that page is a right-hand one.
All that can follow depends on these alone.
"""

from barsandpages.lines import cost_of_line, refusal_of_line
from barsandpages.music import PAGE_END

NO_PAGES_OF_A_WAY = -3
NO_WAY = -6


class Rest:
    """How it can go on from a place: how many ways, the least cost, how the first of the best begins."""

    def __init__(self):
        self.ways = 0
        self.cheapest = 0
        self.cost = 0
        self.length = 0
        self.page_ends = False


def nothing_left():
    rest = Rest()
    rest.ways = 1
    rest.cheapest = 1
    return rest


def cost_of_page(score, lines, after, right):
    """What a page costs besides its lines, which are so many and reach to before bar number after."""
    paper = score.paper
    if after == len(score.bars):
        return paper.page_price
    cost = paper.page_price + paper.empty_price * (paper.lines - lines) ** 2
    if right == 1:
        cost += score.bars[after - 1].turn
    return cost


def page_may_go_on(score, lines, after):
    if after == len(score.bars) or lines == score.paper.lines:
        return False
    return score.bars[after - 1].ends != PAGE_END


def lines_from(score, first):
    """All lines that may begin with a bar, short ones first: where each ends, what it costs."""
    found = []
    for after in range(first + 1, len(score.bars) + 1):
        if refusal_of_line(score, first, after) == 0:
            found.append((after, cost_of_line(score, first, after)))
    return found


def add_step(rest, length, page_ends, cost, behind):
    """Count the ways in which a line of this length comes next, with all that is behind it."""
    if behind.ways == 0:
        return
    total = cost + behind.cost
    # Steps come in the order of ways, so one that costs as little as an earlier one doesn't displace it.
    if rest.ways == 0 or total < rest.cost:
        rest.cost = total
        rest.cheapest = 0
        rest.length = length
        rest.page_ends = page_ends
    if total == rest.cost:
        rest.cheapest += behind.cheapest
    rest.ways += behind.ways


def rest_from(score, rests, place, next_lines):
    first = place[0]
    lines = place[1] + 1
    right = place[2]
    rest = Rest()
    for after, cost in next_lines:
        if page_may_go_on(score, lines, after):
            add_step(rest, after - first, False, cost, rests[(after, lines, right)])
        page = cost_of_page(score, lines, after, right)
        add_step(rest, after - first, True, cost + page, rests[(after, 0, 1 - right)])
    return rest


def all_rests(score):
    """The rest from each place, by place."""
    bars = len(score.bars)
    rests = {}
    for right in (0, 1):
        rests[(bars, 0, right)] = nothing_left()
    for first in range(bars - 1, -1, -1):
        next_lines = lines_from(score, first)
        for lines in range(score.paper.lines):
            for right in (0, 1):
                place = (first, lines, right)
                rests[place] = rest_from(score, rests, place, next_lines)
    return rests


def rest_at_beginning(score, rests):
    return rests[(0, 0, score.paper.right_first)]


def count_ways(score):
    """How many ways there are, and how many of them cost as little as any."""
    rest = rest_at_beginning(score, all_rests(score))
    return [rest.ways, rest.cheapest]


def pages_along(score, rests):
    """The pages of the first of the best ways, each a list of how many bars its lines have."""
    pages = []
    page = []
    first = 0
    right = score.paper.right_first
    while first < len(score.bars):
        rest = rests[(first, len(page), right)]
        page.append(rest.length)
        first += rest.length
        if rest.page_ends:
            pages.append(page)
            page = []
            right = 1 - right
    return pages


def best_way(score):
    """The least cost and the pages of the first way that costs so; the refusal and no pages if there's no way."""
    rests = all_rests(score)
    rest = rest_at_beginning(score, rests)
    if rest.ways == 0:
        return (NO_WAY, [])
    return (rest.cost, pages_along(score, rests))


def is_page(score, first, page):
    """Whether lines with so many bars, from bar number first on, may be a page of a way."""
    if len(page) == 0 or len(page) > score.paper.lines:
        return False
    after = first
    for place, length in enumerate(page):
        # A page that goes on must be let go on by the line before.
        if place > 0 and not page_may_go_on(score, place, after):
            return False
        if refusal_of_line(score, after, after + length) != 0:
            return False
        after += length
    return True


def cost_of_lines(score, first, page):
    cost = 0
    after = first
    for length in page:
        cost += cost_of_line(score, after, after + length)
        after += length
    return cost


def cost_of_pages(score, pages):
    """What the way with these pages costs; the refusal if they are no way."""
    cost = 0
    first = 0
    right = score.paper.right_first
    for page in pages:
        if not is_page(score, first, page):
            return NO_PAGES_OF_A_WAY
        after = first + sum(page)
        cost += cost_of_lines(score, first, page) + cost_of_page(score, len(page), after, right)
        first = after
        right = 1 - right
    if first != len(score.bars):
        return NO_PAGES_OF_A_WAY
    return cost
