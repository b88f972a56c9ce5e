"""Lines: rising stretches with their worths, no moment in two of them."""

from twotimes.stretches import earlier_end


def worth_in(line, moment):
    return worths_in(line, [moment])[0]


def put_on(line, begin, end, worth):
    pieces = ahead_of(line, begin)
    if worth is not None:
        pieces.append((begin, end, worth))
    if end is not None:
        pieces.extend(from_on(line, end))
    return with_alike_joined(pieces)


def cut_to(line, begin, end):
    return from_on(ahead_of(line, end), begin)


def laid_together(line, other):
    bounds = bounds_of(line + other)
    worths = worths_in(line, bounds)
    other_worths = worths_in(other, bounds)
    # Behind the last bound a worth goes on without an end, or there is none.
    ends = bounds[1:] + [None]
    pieces = []
    for begin, end, worth, other_worth in zip(bounds, ends, worths, other_worths):
        if worth is not None or other_worth is not None:
            pieces.append((begin, end, worth, other_worth))
    return with_alike_joined(pieces)


def ahead_of(line, moment):
    return [
        (begin, earlier_end(end, moment), worth)
        for begin, end, worth in line
        if moment is None or begin < moment
    ]


def from_on(line, moment):
    return [
        (max(begin, moment), end, worth)
        for begin, end, worth in line
        if end is None or moment < end
    ]


def bounds_of(stretches):
    begins = [begin for begin, end, worth in stretches]
    ends = [end for begin, end, worth in stretches if end is not None]
    return sorted(set(begins + ends))


# The moments rise, so one walk along the line finds the worths of all of them.
def worths_in(line, moments):
    worths = []
    at = 0
    for moment in moments:
        while at < len(line) and is_over(line[at], moment):
            at += 1
        if at < len(line) and line[at][0] <= moment:
            worths.append(line[at][2])
        else:
            worths.append(None)
    return worths


def is_over(stretch, moment):
    return stretch[1] is not None and stretch[1] <= moment


# The pieces rise; whatever stands behind begin and end must be alike for two to be one.
def with_alike_joined(pieces):
    told = []
    for piece in pieces:
        if told and told[-1][1] == piece[0] and told[-1][2:] == piece[2:]:
            told[-1] = (told[-1][0], piece[1]) + piece[2:]
        else:
            told.append(piece)
    return told
