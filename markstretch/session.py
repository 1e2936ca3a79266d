"""One text with its stretches, and what can be taken back and done again."""

from markstretch.changes import changes_back
from markstretch.changes import content_behind
from markstretch.changes import end_behind
from markstretch.changes import lie_apart_within
from markstretch.changes import read_changes
from markstretch.changes import size_behind

MOST_BYTES = 600
MOST_STRETCHES = 40
HIGHEST_BYTE = 255
HIGHEST_RANK = 9
HIGHEST_VALUE = 99

NOT_FITTING = -1
NO_SUCH_STRETCH = -2
HAS_VANISHED = -3
TOO_MANY_STRETCHES = -5
TOO_MANY_BYTES = -6
NOTHING_TO_BE = -7


class Stretch:
    """A stretch of the text; turn tells which of all makings and settings its last one was."""

    def __init__(self, number, told, turn):
        self.number = number
        self.begin = told[0]
        self.end = told[1]
        self.lean_begin = told[2]
        self.lean_end = told[3]
        self.vanishes = told[4]
        self.rank = told[5]
        self.value = told[6]
        self.vanished = False
        self.turn = turn

    def go_with(self, changes):
        """Go with the changes; answers whether it has vanished by them."""
        if self.vanished:
            return False
        begin = end_behind(changes, self.begin, self.lean_begin)
        end = end_behind(changes, self.end, self.lean_end)
        self.begin = begin
        self.end = max(begin, end)
        self.vanished = is_gone(self.vanishes, self.begin, self.end)
        return self.vanished

    def state(self):
        """What go_back needs to make it as it is now."""
        return (self.turn, self.begin, self.end, self.vanished)

    def go_back(self, state, changes):
        """Be as in that state; if there was none then, or it was set since, go with the changes."""
        if state is None or state[0] != self.turn:
            self.go_with(changes)
            return
        self.begin = state[1]
        self.end = state[2]
        self.vanished = state[3]


class Step:
    """Changes told at once that were done, those that take them back, and each stretch's state ahead of them."""

    def __init__(self, changes, back, states):
        self.changes = changes
        self.back = back
        self.states = states


class Session:
    """A text, its stretches by their numbers, the steps done, and the changes taken back."""

    def __init__(self):
        self.start_anew([])

    def start_anew(self, content):
        """A text with this content, and nothing else."""
        self.content = content
        self.stretches = {}
        self.made = 0
        self.turns = 0
        self.steps = []
        self.taken_back = []

    def begins(self, content):
        """Start anew with a copy of the content."""
        if len(content) > MOST_BYTES or not are_bytes(content):
            return [NOT_FITTING]
        self.start_anew(list(content))
        return [len(content)]

    def mark(self, told):
        """Make a stretch of the numbers that mark is told, in their order."""
        stretch = Stretch(self.made, told, self.turns)
        if not self.has_room(stretch.vanishes, stretch.begin, stretch.end):
            return [NOT_FITTING]
        if stretch.rank > HIGHEST_RANK or stretch.value > HIGHEST_VALUE:
            return [NOT_FITTING]
        if self.made == MOST_STRETCHES:
            return [TOO_MANY_STRETCHES]
        self.stretches[stretch.number] = stretch
        self.made += 1
        self.turns += 1
        return [stretch.number]

    def lies_within(self, begin, end):
        """Whether the one place isn't above the other, and both are places of the text."""
        return begin <= end and end <= len(self.content)

    def has_room(self, vanishes, begin, end):
        """Whether a stretch may go from the one place to the other."""
        return self.lies_within(begin, end) and not is_gone(vanishes, begin, end)

    def refusal_of(self, number):
        """Why a stretch can't be asked for by its number; None if it can."""
        if number not in self.stretches:
            return NO_SUCH_STRETCH
        if self.stretches[number].vanished:
            return HAS_VANISHED
        return None

    def set_to(self, number, begin, end):
        """Let a stretch go from the one place to the other."""
        refusal = self.refusal_of(number)
        if refusal is not None:
            return [refusal]
        stretch = self.stretches[number]
        if not self.has_room(stretch.vanishes, begin, end):
            return [NOT_FITTING]
        stretch.begin = begin
        stretch.end = end
        stretch.turn = self.turns
        self.turns += 1
        return [0]

    def drop(self, number):
        """Take a stretch away, for good."""
        if number not in self.stretches:
            return [NO_SUCH_STRETCH]
        self.stretches.pop(number)
        return [0]

    def change(self, numbers):
        """Do new changes, written as change is told them."""
        changes = read_changes(numbers)
        if not lie_apart_within(changes, len(self.content)):
            return [NOT_FITTING]
        if not all([are_bytes(change.coming) for change in changes]):
            return [NOT_FITTING]
        if size_behind(changes, len(self.content)) > MOST_BYTES:
            return [TOO_MANY_BYTES]
        vanished = self.do_step(changes)
        self.taken_back = []
        return [vanished, len(self.content)]

    def do_step(self, changes):
        """Do changes so that they can be taken back; answers how many stretches have vanished by them."""
        states = {}
        for number in self.stretches:
            states[number] = self.stretches[number].state()
        self.steps.append(Step(changes, changes_back(changes, self.content), states))
        self.content = content_behind(changes, self.content)
        vanished = 0
        for number in self.stretches:
            if self.stretches[number].go_with(changes):
                vanished += 1
        return vanished

    def undo(self):
        """Take back the step done last."""
        if len(self.steps) == 0:
            return [NOTHING_TO_BE]
        step = self.steps.pop()
        self.content = content_behind(step.back, self.content)
        for number in self.stretches:
            self.stretches[number].go_back(step.states.get(number), step.back)
        self.taken_back.append(step.changes)
        return [len(self.steps), len(self.content)]

    def redo(self):
        """Do again the changes taken back last."""
        if len(self.taken_back) == 0:
            return [NOTHING_TO_BE]
        self.do_step(self.taken_back.pop())
        return [len(self.taken_back), len(self.content)]


def are_bytes(numbers):
    """Whether none of the numbers is too high for a byte."""
    return all([number <= HIGHEST_BYTE for number in numbers])


def is_gone(vanishes, begin, end):
    """Whether it is a stretch that vanishes, and an empty one."""
    return vanishes == 1 and begin == end
