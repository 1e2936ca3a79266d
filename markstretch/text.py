"""The calls on one text, read from one list of whole numbers and answered in another."""

from markstretch.session import Session

BEGINS = 0
MARK = 1
SET = 2
DROP = 3
CHANGE = 4
UNDO = 5

# By a call's number, how many whole numbers it has ahead of its row.
NUMBERS = (0, 7, 3, 1, 0, 0, 0)


def answers(calls):
    """The answers of the calls on a new text, each with how many numbers it has before it."""
    return answers_of(Session(), calls)


def answers_of(session, calls):
    """The answers of the calls on this text, each with how many numbers it has before it."""
    result = []
    at = 0
    while at < len(calls):
        kind = calls[at]
        start = at + 1
        stop = start + NUMBERS[kind]
        if has_row(kind):
            start = stop + 1
            stop = start + calls[stop]
        answer = answer_of(session, kind, calls[start:stop])
        result.append(len(answer))
        result.extend(answer)
        at = stop
    return result


def has_row(kind):
    """Whether a call has a row; it has nothing else then."""
    return kind == BEGINS or kind == CHANGE


def answer_of(session, kind, numbers):
    """The answer of one call that is told these numbers."""
    if kind == BEGINS:
        return session.begins(numbers)
    if kind == MARK:
        return session.mark(numbers)
    if kind == SET:
        return session.set_to(numbers[0], numbers[1], numbers[2])
    if kind == DROP:
        return session.drop(numbers[0])
    if kind == CHANGE:
        return session.change(numbers)
    if kind == UNDO:
        return session.undo()
    return session.redo()
