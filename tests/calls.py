"""Calls written as lists of numbers, and ways to ask them."""

from markstretch.session import Session
from markstretch.text import answers, answers_of

UNDO = [5]
REDO = [6]
HUGE = 4294967295


def begins(content):
    return [0, len(content)] + list(content)


def mark(begin, end, lean_begin=0, lean_end=0, vanishes=0, rank=0, value=0):
    return [1, begin, end, lean_begin, lean_end, vanishes, rank, value]


def set_to(number, begin, end):
    return [2, number, begin, end]


def drop(number):
    return [3, number]


def change(*changes):
    """Each of the changes by its place, how many bytes out, and the bytes in."""
    row = []
    for place, out, coming in changes:
        row += [place, out, len(coming)] + list(coming)
    return [4, len(row)] + row


def flat(calls):
    return [number for call in calls for number in call]


def split(numbers):
    """The answers, a list each."""
    result = []
    at = 0
    while at < len(numbers):
        stop = at + 1 + numbers[at]
        result.append(numbers[at + 1:stop])
        at = stop
    if at != len(numbers):
        raise ValueError("the answers end within one")
    return result


def ask(*calls):
    return split(answers(flat(calls)))


def last(*calls):
    return ask(*calls)[-1]


def behind(*calls):
    """The text as it is when the calls are answered."""
    session = Session()
    answers_of(session, flat(calls))
    return session


def ends(session, number):
    """Where a stretch goes from and to; None if it has vanished."""
    stretch = session.stretches[number]
    if stretch.vanished:
        return None
    return (stretch.begin, stretch.end)


def picture(session):
    """All of a text that can be told apart, but not how often it was set."""
    return (
        session.content,
        {number: ends(session, number) for number in session.stretches},
        session.made,
        len(session.steps),
        len(session.taken_back),
    )


def probe(calls, size):
    """Where the only stretch, one that vanishes, goes from and to, by what vanishes when bytes go out.

    None if nothing vanishes when all bytes go out.
    """
    def goes(place, stop):
        return last(*calls, change((place, stop - place, [])))[0] == 1

    if not goes(0, size):
        return None
    begin = max(place for place in range(size) if goes(place, size))
    end = min(stop for stop in range(1, size + 1) if goes(0, stop))
    return (begin, end)
