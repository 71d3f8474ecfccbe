"""One line of music: whether it may be, what it costs, how wide its bars are.

Everywhere a line is the bars from number first to before number after.
"""

from barsandpages.music import LINE_END, NO_LINE_END, PAGE_END

NO_SUCH_BARS = -2
DOES_NOT_GO = -7
MAY_NOT_BE = -8


def are_there(score, first, after):
    return first < after and after <= len(score.bars)


def is_last_line(score, after):
    return after == len(score.bars)


def least_width(score, first, after):
    return sum([bar.least for bar in score.bars[first:after]])


def wished_width(score, first, after):
    return sum([bar.wished for bar in score.bars[first:after]])


def room_of(score, first):
    return score.paper.width - score.bars[first].head


def goes(score, first, after):
    return least_width(score, first, after) <= room_of(score, first)


def ends_well(score, first, after):
    """Whether the bars let a line end here, and none of them asks for an end before."""
    for bar in score.bars[first:after - 1]:
        if bar.ends == LINE_END or bar.ends == PAGE_END:
            return False
    return is_last_line(score, after) or score.bars[after - 1].ends != NO_LINE_END


def refusal_of_line(score, first, after):
    """Why these bars can't be a line, as a number below 0; 0 if they can."""
    if not are_there(score, first, after):
        return NO_SUCH_BARS
    if not goes(score, first, after):
        return DOES_NOT_GO
    if not ends_well(score, first, after):
        return MAY_NOT_BE
    return 0


def cost_of_line(score, first, after):
    """What a line costs that may be."""
    paper = score.paper
    wished = wished_width(score, first, after)
    room = room_of(score, first)
    if wished > room:
        slack = wished - least_width(score, first, after)
        return paper.line_price + paper.squeezing * (wished - room) ** 2 // slack
    if is_last_line(score, after):
        return paper.line_price
    return paper.line_price + paper.stretching * (room - wished) ** 2 // wished


def shares_of(amount, weights):
    """The amount shared out by weight, to the last unit."""
    whole = sum(weights)
    shares = [amount * weight // whole for weight in weights]
    rests = [amount * weight % whole for weight in weights]
    # Sorting keeps bars with the same rest in order, so of alike ones the first are served.
    by_rest = sorted(range(len(weights)), key=lambda place: 0 - rests[place])
    for place in by_rest[:amount - sum(shares)]:
        shares[place] += 1
    return shares


def widths_of_line(score, first, after):
    """How wide each bar is on a line that may be."""
    bars = score.bars[first:after]
    wished = [bar.wished for bar in bars]
    more = room_of(score, first) - sum(wished)
    if more < 0:
        taken = shares_of(0 - more, [bar.wished - bar.least for bar in bars])
        return [width - part for width, part in zip(wished, taken)]
    if is_last_line(score, after):
        return wished
    return [width + part for width, part in zip(wished, shares_of(more, wished))]
