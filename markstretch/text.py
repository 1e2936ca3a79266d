"""The calls on one text, read from one list of whole numbers and answered in another."""

from markstretch.questions import bytes_shown
from markstretch.questions import covering
from markstretch.questions import ends_of
from markstretch.questions import every_one
from markstretch.questions import first_behind
from markstretch.questions import runs_between
from markstretch.session import Session

BEGINS = 0
MARK = 1
SET = 2
DROP = 3
CHANGE = 4
UNDO = 5
REDO = 6
SHOWS = 7
STRETCH = 8
OVER = 9
RUNS = 10
NEXT = 11

# By a call's number, how many whole numbers it has ahead of its row.
NUMBERS = (0, 7, 3, 1, 0, 0, 0, 0, 1, 1, 2, 2, 0)


def answers(calls):
    """The answers of the calls on a new text, each with how many numbers it has before it."""
    session = Session()
    result = []
    at = 0
    while at < len(calls):
        kind = calls[at]
        start = at + 1
        stop = start + NUMBERS[kind]
        if has_row(kind):
            start = stop + 1
            stop = start + calls[stop]
        answer = answer_of(session, kind, calls[start:stop])
        result.append(len(answer))
        result.extend(answer)
        at = stop
    return result


def has_row(kind):
    """Whether a call has a row; it has nothing else then."""
    return kind == BEGINS or kind == CHANGE


def answer_of(session, kind, numbers):
    """The answer of one call that is told these numbers."""
    if kind == BEGINS:
        return session.begins(numbers)
    if kind == MARK:
        return session.mark(numbers)
    if kind == SET:
        return session.set_to(numbers[0], numbers[1], numbers[2])
    if kind == DROP:
        return session.drop(numbers[0])
    if kind == CHANGE:
        return session.change(numbers)
    if kind == UNDO:
        return session.undo()
    if kind == REDO:
        return session.redo()
    return seen_of(session, kind, numbers)


def seen_of(session, kind, numbers):
    """The answer of one call that only looks."""
    if kind == SHOWS:
        return bytes_shown(session)
    if kind == STRETCH:
        return ends_of(session, numbers[0])
    if kind == OVER:
        return covering(session, numbers[0])
    if kind == RUNS:
        return runs_between(session, numbers[0], numbers[1])
    if kind == NEXT:
        return first_behind(session, numbers[0], numbers[1])
    return every_one(session)
