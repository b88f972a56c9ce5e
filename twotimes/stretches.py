"""Names, moments and stretches, and what two stretches have in common."""

LAST_MOMENT = 1000000000000
LONGEST_NAME = 8


def is_name(thing):
    if not isinstance(thing, str):
        return False
    if len(thing) < 1 or len(thing) > LONGEST_NAME:
        return False
    # islower would also take letters beyond a to z.
    return all(["a" <= sign <= "z" for sign in thing])


def is_moment(thing):
    # Python counts True and False among the whole numbers; here they are none.
    if isinstance(thing, bool) or not isinstance(thing, int):
        return False
    return 0 <= thing <= LAST_MOMENT


def is_stretch(begin, end):
    if not is_moment(begin):
        return False
    if end is None:
        return True
    return is_moment(end) and begin < end


def earlier_end(end, other):
    if end is None:
        return other
    if other is None:
        return end
    return min(end, other)


def common(one, other):
    begin = max(one[0], other[0])
    end = earlier_end(one[1], other[1])
    if end is not None and end <= begin:
        return None
    return (begin, end)
