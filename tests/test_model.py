"""Lines of calls of all kinds, drawn with fixed seeds, against a model that is written another way."""

import copy
import itertools
import random
import unittest

from tests.calls import (
    ALL, HUGE, REDO, SHOWS, UNDO, ask, begins, change, drop, mark, next_of, over, runs, set_to, stretch,
)


def place_behind(changes, end, lean):
    """Where an end comes, with no change done behind another: by the bytes ahead of it alone."""
    grown = 0
    for place, out, coming in changes:
        if place <= end <= place + out:
            return place + grown + lean * len(coming)
        if place + out < end:
            grown += len(coming) - out
    return end + grown


class Model:
    """Keeps a copy of all stretches ahead of each change, and the times at which things were told.

    Which stretch is above another it keeps as a pile of their numbers for each rank, the top one last.
    """

    def __init__(self):
        self.begins([])

    def begins(self, content):
        if len(content) > 600 or any(byte > 255 for byte in content):
            return [-1]
        self.content = list(content)
        self.marks = {}
        self.piles = [[] for rank in range(10)]
        self.made = 0
        self.time = 0
        self.past = []
        self.future = []
        return [len(content)]

    def mark(self, *told):
        begin, end, lean_begin, lean_end, vanishes, rank, value = told
        if not begin <= end <= len(self.content) or rank > 9 or value > 99 or (vanishes and begin == end):
            return [-1]
        if self.made == 40:
            return [-5]
        self.time += 1
        self.marks[self.made] = {"at": (begin, end), "leans": (lean_begin, lean_end), "vanishes": vanishes,
                                 "gone": False, "told": self.time, "value": value}
        self.piles[rank].append(self.made)
        self.made += 1
        return [self.made - 1]

    def set_to(self, number, begin, end):
        if number not in self.marks:
            return [-2]
        one = self.marks[number]
        if one["gone"]:
            return [-3]
        if not begin <= end <= len(self.content) or (one["vanishes"] and begin == end):
            return [-1]
        self.time += 1
        one["at"] = (begin, end)
        one["told"] = self.time
        for pile in self.piles:
            if number in pile:
                pile.remove(number)
                pile.append(number)
        return [0]

    def drop(self, number):
        return [-2] if self.marks.pop(number, None) is None else [0]

    def from_the_top(self):
        """The numbers of all stretches that are there and haven't vanished."""
        numbers = [number for pile in reversed(self.piles) for number in reversed(pile)]
        return [number for number in numbers if number in self.marks and not self.marks[number]["gone"]]

    def covering(self, place):
        return [number for number in self.from_the_top() if place in range(*self.marks[number]["at"])]

    def move(self, one, changes):
        if not one["gone"]:
            begin, end = [place_behind(changes, at, lean) for at, lean in zip(one["at"], one["leans"])]
            one["at"] = (begin, max(begin, end))
            one["gone"] = bool(one["vanishes"]) and begin >= end

    def change(self, *changes):
        text = len(self.content)
        for k, (place, out, coming) in enumerate(changes):
            if place + out > text or (k > 0 and place <= sum(changes[k - 1][:2])) or any(b > 255 for b in coming):
                return [-1]
        if text + sum(len(coming) - out for place, out, coming in changes) > 600:
            return [-6]
        self.future = []
        return [self.do(changes), len(self.content)]

    def do(self, changes):
        self.time += 1
        self.past.append((self.time, changes, list(self.content), copy.deepcopy(self.marks)))
        for place, out, coming in reversed(changes):
            self.content[place:place + out] = coming
        gone = sum(one["gone"] for one in self.marks.values())
        for one in self.marks.values():
            self.move(one, changes)
        return sum(one["gone"] for one in self.marks.values()) - gone

    def undo(self):
        if not self.past:
            return [-7]
        time, changes, content, marks = self.past.pop()
        back = []
        for k, (place, out, coming) in enumerate(changes):
            now = place + sum(len(c) - o for p, o, c in changes[:k])
            back.append((now, len(coming), content[place:place + out]))
        for number, one in self.marks.items():
            if one["told"] < time:
                one.update(copy.deepcopy(marks[number]))
            else:
                self.move(one, back)
        self.content = content
        self.future.append(changes)
        return [len(self.past), len(self.content)]

    def redo(self):
        if not self.future:
            return [-7]
        self.do(self.future.pop())
        return [len(self.future), len(self.content)]

    def shows(self):
        return [len(self.content), *self.content]

    def stretch(self, number):
        if number not in self.marks:
            return [-2]
        return [-3] if self.marks[number]["gone"] else list(self.marks[number]["at"])

    def over(self, place):
        if place not in range(len(self.content)):
            return [-1]
        covering = self.covering(place)
        return [len(covering), *covering]

    def top(self, place):
        covering = self.covering(place)
        return self.marks[covering[0]]["value"] + 1 if covering else 0

    def runs(self, begin, end):
        if not begin <= end <= len(self.content):
            return [-1]
        rows = [(top, list(places)) for top, places in itertools.groupby(range(begin, end), self.top)]
        return [len(rows)] + [number for top, places in rows for number in (places[0], places[-1] + 1, top)]

    def next_of(self, place, value):
        # Walked from the text's beginning: the first place behind the one asked at which one begins.
        for begin in range(place + 1, len(self.content) + 1):
            for number in self.from_the_top():
                if self.marks[number]["at"][0] == begin and self.marks[number]["value"] == value:
                    return [number, *self.marks[number]["at"]]
        return [-6]

    def all(self):
        numbers = sorted(self.from_the_top())
        return [len(numbers)] + [one for number in numbers for one in (number, *self.marks[number]["at"])]


DOING = ("mark", "mark", "mark", "set", "set", "drop", "change", "change", "change", "undo", "undo", "redo")
LOOKING = ("shows", "stretch", "over", "over", "runs", "runs", "next", "next", "all")
VALUES = (0, 50, 99, 99)


class Drawn:
    """Draws calls on a text, asks the model each, and keeps both."""

    def __init__(self, seed, most):
        self.draw = random.Random(seed)
        self.most = most
        self.model = Model()
        self.calls = []
        self.answers = []

    def keep(self, call, answer):
        self.calls.append(call)
        self.answers.append(answer)

    def bytes(self, count):
        return [self.draw.randrange(256) for k in range(count)]

    def place(self):
        """A place of the text, or one a little beyond it, now and then one far beyond."""
        if self.draw.random() < 0.01:
            return HUGE
        return self.draw.randrange(len(self.model.content) + 2)

    def begins(self):
        content = self.bytes(self.draw.randrange(self.most + 1))
        spoil = self.draw.random()
        if self.calls and spoil < 0.2:
            content = content + [256]
        elif self.calls and spoil < 0.4:
            content = [1] * 601
        self.keep(begins(content), self.model.begins(content))

    def changes(self):
        draw = self.draw
        size = len(self.model.content)
        wide = self.most // 12
        changes = []
        place = draw.choice((0, 0, 1, 2, wide))
        while place <= size and len(changes) < 4 and draw.random() < 0.8:
            out = min(draw.choice((0, 0, 1, 2, 4, 2 * wide)), size - place)
            changes.append((place, out, self.bytes(draw.choice((0, 0, 1, 2, 3, wide)))))
            place += out + draw.choice((1, 1, 2, 5, 3 * wide))
        spoil = draw.random()
        if changes and spoil < 0.05:
            changes.append(draw.choice(changes))
        elif spoil < 0.1:
            changes.append((size + 1, 0, []))
        elif spoil < 0.13:
            changes = [(0, 0, [draw.choice((7, 256))] * (601 - size))]
        return changes

    def do(self):
        draw = self.draw
        model = self.model
        kind = draw.choice(DOING)
        number = draw.randrange(model.made + 1)
        begin = draw.randrange(len(model.content) + 1)
        end = draw.choice((begin, max(0, begin - 1), self.place(), begin + 1, begin + 2, begin + self.most // 4))
        if draw.random() < 0.01:
            self.begins()
        elif kind == "mark":
            told = (begin, end, draw.randrange(2), draw.randrange(2), draw.randrange(2),
                    draw.choice((0, 0, 5, 9, 9, 9, 10)), draw.choice((*VALUES, 100)))
            self.keep(mark(*told), model.mark(*told))
        elif kind == "set":
            # Half of them to where it is: that lifts it, and it counts as set since.
            if number in model.marks and draw.random() < 0.5:
                begin, end = model.marks[number]["at"]
            self.keep(set_to(number, begin, end), model.set_to(number, begin, end))
        elif kind == "drop":
            self.keep(drop(number), model.drop(number))
        elif kind == "change":
            changes = self.changes()
            self.keep(change(*changes), model.change(*changes))
        elif kind == "undo":
            self.keep(UNDO, model.undo())
        else:
            self.keep(REDO, model.redo())

    def look(self):
        kind = self.draw.choice(LOOKING)
        place = self.place()
        if kind == "shows":
            self.keep(SHOWS, self.model.shows())
        elif kind == "stretch":
            number = self.draw.randrange(self.model.made + 1)
            self.keep(stretch(number), self.model.stretch(number))
        elif kind == "over":
            self.keep(over(place), self.model.over(place))
        elif kind == "runs":
            end = self.place()
            self.keep(runs(place, end), self.model.runs(place, end))
        elif kind == "next":
            value = self.draw.choice((*VALUES, 100, HUGE))
            self.keep(next_of(place, value), self.model.next_of(place, value))
        else:
            self.keep(ALL, self.model.all())

    def look_at_all(self):
        size = len(self.model.content)
        self.keep(SHOWS, self.model.shows())
        self.keep(ALL, self.model.all())
        self.keep(runs(0, size), self.model.runs(0, size))
        place = self.place()
        self.keep(over(place), self.model.over(place))


class AgainstTheModel(unittest.TestCase):
    def check(self, drawn):
        self.assertEqual(ask(*drawn.calls), drawn.answers)

    def mixed(self, seed, most):
        drawn = Drawn(seed, most)
        drawn.begins()
        while len(drawn.calls) < 60:
            if drawn.draw.random() < 0.6:
                drawn.do()
            else:
                drawn.look()
        return drawn

    def test_short_texts(self):
        for seed in range(500):
            self.check(self.mixed(seed, 14))

    def test_long_texts(self):
        for seed in range(40):
            self.check(self.mixed(seed, 600))

    def test_no_text_at_first(self):
        for seed in range(100):
            drawn = Drawn(seed, 14)
            for k in range(30):
                drawn.do()
                drawn.look()
            self.check(drawn)

    def test_many_stretches(self):
        refused = 0
        for seed in range(200):
            drawn = Drawn(seed, 8)
            drawn.begins()
            while len(drawn.calls) < 40:
                told = (0, len(drawn.model.content), *[drawn.draw.randrange(2) for k in range(3)],
                        drawn.draw.choice((0, 9)), drawn.draw.choice(VALUES))
                drawn.keep(mark(*told), drawn.model.mark(*told))
            while len(drawn.calls) < 60:
                drawn.do()
                drawn.look()
            self.check(drawn)
            refused += drawn.answers.count([-5])
        self.assertGreater(refused, 0)

    def test_looked_at_behind_each_call(self):
        for seed in range(400):
            drawn = Drawn(seed, 10)
            drawn.begins()
            while len(drawn.calls) < 56:
                drawn.do()
                drawn.look_at_all()
            self.check(drawn)

    def test_every_kind_of_answer_is_drawn(self):
        seen = set()
        for seed in range(200):
            drawn = self.mixed(seed, 14)
            seen |= {(call[0], min(0, answer[0])) for call, answer in zip(drawn.calls, drawn.answers)}
        refusals = {0: (-1,), 1: (-1,), 2: (-2, -3, -1), 3: (-2,), 4: (-1, -6), 5: (-7,), 6: (-7,), 8: (-2, -3),
                    9: (-1,), 10: (-1,), 11: (-6,)}
        meant = {(kind, 0) for kind in range(13)}
        meant |= {(kind, refusal) for kind, numbers in refusals.items() for refusal in numbers}
        self.assertEqual(seen, meant)
