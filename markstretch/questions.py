"""The calls that only look at a session: shows, stretch, over, runs, next and all."""

from markstretch.session import NOT_FITTING

NONE_BEHIND = -6


def standing(session):
    """The stretches that haven't vanished, by their numbers."""
    stretches = [session.stretches[number] for number in sorted(session.stretches)]
    return [stretch for stretch in stretches if not stretch.vanished]


def height(stretch):
    """Of two stretches the one with more of it lies above the other."""
    return (stretch.rank, stretch.turn)


def bytes_shown(session):
    """How many bytes the text has, and they."""
    return [len(session.content)] + session.content


def ends_of(session, number):
    """Where a stretch goes from and to."""
    refusal = session.refusal_of(number)
    if refusal is not None:
        return [refusal]
    stretch = session.stretches[number]
    return [stretch.begin, stretch.end]


def covering(session, place):
    """How many stretches cover the byte behind the place, and their numbers, the top one first."""
    if place >= len(session.content):
        return [NOT_FITTING]
    found = [stretch for stretch in standing(session) if stretch.begin <= place and place < stretch.end]
    from_the_top = sorted(found, key=height, reverse=True)
    return [len(found)] + [stretch.number for stretch in from_the_top]


def tops_of(session):
    """For each byte of the text 0 if no stretch is on top, else one more than the value on top."""
    tops = [0] * len(session.content)
    # From the lowest up, so that what lies above is put over what lies below.
    for stretch in sorted(standing(session), key=height):
        for place in range(stretch.begin, stretch.end):
            tops[place] = stretch.value + 1
    return tops


def runs_between(session, begin, end):
    """How many runs there are from the one place to the other, and of each: from, to, what is on top."""
    if not session.lies_within(begin, end):
        return [NOT_FITTING]
    tops = tops_of(session)
    rows = []
    count = 0
    start = begin
    for place in range(begin + 1, end + 1):
        if place == end or tops[place] != tops[start]:
            rows.extend([start, place, tops[start]])
            count += 1
            start = place
    return [count] + rows


def first_behind(session, place, value):
    """Of the stretches with that value that begin behind the place the first: its number, from, to."""
    found = [stretch for stretch in standing(session) if stretch.value == value and stretch.begin > place]
    if len(found) == 0:
        return [NONE_BEHIND]
    nearest = min([stretch.begin for stretch in found])
    first = max([stretch for stretch in found if stretch.begin == nearest], key=height)
    return [first.number, first.begin, first.end]


def every_one(session):
    """How many stretches haven't vanished, and of each: its number, from, to."""
    there = standing(session)
    rows = []
    for stretch in there:
        rows.extend([stretch.number, stretch.begin, stretch.end])
    return [len(there)] + rows
