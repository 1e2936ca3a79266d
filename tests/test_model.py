"""Lines of calls, drawn with fixed seeds, against a model that is written another way."""

import copy
import random
import unittest

from markstretch.session import Session
from markstretch.text import answers_of
from tests.calls import REDO, UNDO, begins, change, drop, ends, flat, mark, set_to, split


def place_behind(changes, end, lean):
    """Where an end comes, with no change done behind another: by the bytes ahead of it alone."""
    grown = 0
    for place, out, coming in changes:
        if place <= end <= place + out:
            return place + grown + lean * len(coming)
        if place + out < end:
            grown += len(coming) - out
    return end + grown


class Model:
    """Keeps a copy of all stretches ahead of each change, and the times at which things were told."""

    def __init__(self):
        self.begins([])

    def begins(self, content):
        self.content = list(content)
        self.marks = {}
        self.made = 0
        self.time = 0
        self.past = []
        self.future = []
        return [len(content)]

    def mark(self, *told):
        begin, end, lean_begin, lean_end, vanishes, rank, value = told
        if not begin <= end <= len(self.content) or rank > 9 or value > 99 or (vanishes and begin == end):
            return [-1]
        if self.made == 40:
            return [-5]
        self.time += 1
        self.marks[self.made] = {"at": (begin, end), "leans": (lean_begin, lean_end), "vanishes": vanishes,
                                 "gone": False, "told": self.time}
        self.made += 1
        return [self.made - 1]

    def set_to(self, number, begin, end):
        if number not in self.marks:
            return [-2]
        one = self.marks[number]
        if one["gone"]:
            return [-3]
        if not begin <= end <= len(self.content) or (one["vanishes"] and begin == end):
            return [-1]
        self.time += 1
        one["at"] = (begin, end)
        one["told"] = self.time
        return [0]

    def drop(self, number):
        return [-2] if self.marks.pop(number, None) is None else [0]

    def move(self, one, changes):
        if not one["gone"]:
            begin, end = [place_behind(changes, at, lean) for at, lean in zip(one["at"], one["leans"])]
            one["at"] = (begin, max(begin, end))
            one["gone"] = bool(one["vanishes"]) and begin >= end

    def change(self, *changes):
        text = len(self.content)
        for k, (place, out, coming) in enumerate(changes):
            if place + out > text or (k > 0 and place <= sum(changes[k - 1][:2])) or any(b > 255 for b in coming):
                return [-1]
        if text + sum(len(coming) - out for place, out, coming in changes) > 600:
            return [-6]
        self.future = []
        return [self.do(changes), len(self.content)]

    def do(self, changes):
        self.time += 1
        self.past.append((self.time, changes, list(self.content), copy.deepcopy(self.marks)))
        for place, out, coming in reversed(changes):
            self.content[place:place + out] = coming
        gone = sum(one["gone"] for one in self.marks.values())
        for one in self.marks.values():
            self.move(one, changes)
        return sum(one["gone"] for one in self.marks.values()) - gone

    def undo(self):
        if not self.past:
            return [-7]
        time, changes, content, marks = self.past.pop()
        back = []
        for k, (place, out, coming) in enumerate(changes):
            now = place + sum(len(c) - o for p, o, c in changes[:k])
            back.append((now, len(coming), content[place:place + out]))
        for number, one in self.marks.items():
            if one["told"] < time:
                one.update(copy.deepcopy(marks[number]))
            else:
                self.move(one, back)
        self.content = content
        self.future.append(changes)
        return [len(self.past), len(self.content)]

    def redo(self):
        if not self.future:
            return [-7]
        self.do(self.future.pop())
        return [len(self.future), len(self.content)]


def draw_changes(draw, size):
    changes = []
    place = draw.choice((0, 0, 1, 2))
    while place <= size and len(changes) < 4 and draw.random() < 0.8:
        out = min(draw.choice((0, 0, 1, 2, 4)), size - place)
        changes.append((place, out, [draw.randrange(256) for k in range(draw.choice((0, 0, 1, 2, 3)))]))
        place += out + draw.choice((1, 1, 2, 5))
    spoil = draw.random()
    if changes and spoil < 0.05:
        changes.append(draw.choice(changes))
    elif spoil < 0.1:
        changes.append((size + 1, 0, []))
    elif spoil < 0.13:
        changes = [(0, 0, [draw.choice((7, 256))] * (601 - size))]
    return changes


def draw_call(draw, model):
    """A call as it is written, and what the model answers."""
    size = len(model.content)
    kind = draw.choice(("mark", "mark", "set", "set", "drop", "change", "change", "change", "undo", "undo", "redo"))
    begin = draw.randrange(size + 1)
    end = draw.randrange(max(0, begin - 1), size + 2)
    number = draw.randrange(model.made + 1)
    if draw.random() < 0.01:
        content = [draw.randrange(256) for k in range(draw.randrange(12))]
        return begins(content), model.begins(content)
    if kind == "mark":
        told = (begin, end, draw.randrange(2), draw.randrange(2), draw.randrange(2),
                draw.choice((0, 5, 9, 9, 10)), draw.choice((0, 50, 99, 99, 100)))
        return mark(*told), model.mark(*told)
    if kind == "set":
        return set_to(number, begin, end), model.set_to(number, begin, end)
    if kind == "drop":
        return drop(number), model.drop(number)
    if kind == "change":
        changes = draw_changes(draw, size)
        return change(*changes), model.change(*changes)
    if kind == "undo":
        return UNDO, model.undo()
    return REDO, model.redo()


class AgainstTheModel(unittest.TestCase):
    def test_lines(self):
        for seed in range(400):
            self.check(random.Random(seed))

    def check(self, draw):
        model = Model()
        session = Session()
        content = [draw.randrange(256) for k in range(draw.randrange(14))]
        told = [(begins(content), model.begins(content))]
        self.assertEqual(split(answers_of(session, told[0][0])), [told[0][1]])
        for k in range(59):
            call, answer = draw_call(draw, model)
            told.append((call, answer))
            self.assertEqual(split(answers_of(session, call)), [answer])
            self.assertEqual(session.content, model.content)
            seen = {number: ends(session, number) for number in session.stretches}
            meant = {number: None if one["gone"] else one["at"] for number, one in model.marks.items()}
            self.assertEqual(seen, meant)
        whole = flat([call for call, answer in told])
        self.assertEqual(split(answers_of(Session(), whole)), [answer for call, answer in told])
