"""Changes of a text: how they are read, checked, done and taken back, and where an end comes by them."""


class Change:
    """At a place so many bytes go out, and others come in."""

    def __init__(self, place, out, coming):
        self.place = place
        self.out = out
        self.coming = coming


def read_changes(numbers):
    """The changes that are written one behind another in a list of whole numbers."""
    changes = []
    at = 0
    while at < len(numbers):
        start = at + 3
        stop = start + numbers[at + 2]
        changes.append(Change(numbers[at], numbers[at + 1], numbers[start:stop]))
        at = stop
    return changes


def lie_apart_within(changes, size):
    """Whether the changes are in order, don't touch, and aren't beyond a text of that size."""
    lowest = 0
    for change in changes:
        behind = change.place + change.out
        if change.place < lowest or behind > size:
            return False
        lowest = behind + 1
    return True


def size_behind(changes, size):
    """How many bytes a text of that size has when the changes are done."""
    return size + sum([len(change.coming) - change.out for change in changes])


def content_behind(changes, content):
    """The bytes of the text when the changes are done."""
    result = []
    at = 0
    for change in changes:
        result.extend(content[at:change.place])
        result.extend(change.coming)
        at = change.place + change.out
    result.extend(content[at:])
    return result


def changes_back(changes, content):
    """The changes that take the text back to this content when the changes are done."""
    back = []
    shift = 0
    for change in changes:
        gone = content[change.place:change.place + change.out]
        back.append(Change(change.place + shift, len(change.coming), gone))
        shift += len(change.coming) - change.out
    return back


def end_behind_one(change, end, lean):
    """Where an end with that lean comes by one change."""
    if end < change.place:
        return end
    if end > change.place + change.out:
        return end + len(change.coming) - change.out
    if lean == 0:
        return change.place
    return change.place + len(change.coming)


def end_behind(changes, end, lean):
    """Where an end with that lean comes by changes told at once."""
    place = end
    # The last first: what is done behind a change leaves its place as told.
    for change in reversed(changes):
        place = end_behind_one(change, place, lean)
    return place
