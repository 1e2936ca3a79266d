"""Calls written as lists of numbers, and ways to ask them."""

from markstretch.text import answers

UNDO = [5]
REDO = [6]
SHOWS = [7]
ALL = [12]
HUGE = 4294967295


def begins(content):
    return [0, len(content)] + list(content)


def mark(begin, end, lean_begin=0, lean_end=0, vanishes=0, rank=0, value=0):
    return [1, begin, end, lean_begin, lean_end, vanishes, rank, value]


def set_to(number, begin, end):
    return [2, number, begin, end]


def drop(number):
    return [3, number]


def change(*changes):
    """Each of the changes by its place, how many bytes out, and the bytes in."""
    row = []
    for place, out, coming in changes:
        row += [place, out, len(coming)] + list(coming)
    return [4, len(row)] + row


def stretch(number):
    return [8, number]


def over(place):
    return [9, place]


def runs(begin, end):
    return [10, begin, end]


def next_of(place, value):
    return [11, place, value]


def flat(calls):
    return [number for call in calls for number in call]


def split(numbers):
    """The answers, a list each."""
    result = []
    at = 0
    while at < len(numbers):
        stop = at + 1 + numbers[at]
        result.append(numbers[at + 1:stop])
        at = stop
    if at != len(numbers):
        raise ValueError("the answers end within one")
    return result


def ask(*calls):
    """The answers of a line of calls, a list each; the line is one that may be handed in."""
    told = flat(calls)
    if not 1 <= len(calls) <= 60 or len(told) > 30000:
        raise ValueError("no such line is handed in")
    answered = split(answers(told))
    if len(answered) != len(calls):
        raise ValueError("not an answer for each call")
    return answered


def last(*calls):
    return ask(*calls)[-1]


class Behind:
    """A text as it is when the calls are answered, seen through one more call at a time."""

    def __init__(self, calls):
        self.calls = calls

    def seen(self, *looks):
        return last(*self.calls, *looks)

    @property
    def content(self):
        count, *content = self.seen(SHOWS)
        if count != len(content):
            raise ValueError("not as many bytes as told")
        return content


def behind(*calls):
    return Behind(calls)


def ends(view, number):
    """Where a stretch goes from and to; None if it has vanished."""
    answered = view.seen(stretch(number))
    if answered == [-3]:
        return None
    begin, end = answered
    return (begin, end)


def picture(view):
    """All of a text that can be told apart by asking, but not what a later set would do to what is taken back."""
    size = len(view.content)
    looks = [SHOWS, ALL, UNDO, REDO, mark(0, 0), runs(0, size)]
    looks += [stretch(number) for number in range(41)]
    looks += [over(place) for place in range(size)]
    seen = [view.seen(look) for look in looks]
    return seen + [view.seen(step, look) for step in (UNDO, REDO) for look in (SHOWS, ALL)]


def probe(calls, size):
    """Where the only stretch, one that vanishes, goes from and to, by what vanishes when bytes go out.

    None if nothing vanishes when all bytes go out.
    """
    def goes(place, stop):
        return last(*calls, change((place, stop - place, [])))[0] == 1

    if not goes(0, size):
        return None
    begin = max(place for place in range(size) if goes(place, size))
    end = min(stop for stop in range(1, size + 1) if goes(0, stop))
    return (begin, end)
