"""What can be told of a craft by trying every loss of letters, for the tests of the ground, the line and judging."""

import itertools

from faruplink.craft import Craft

WORDS = ("none", "held", "done", "back", "late")


def cmd(number):
    return ("cmd", number)


def back(number):
    return ("back", number)


def parts(letters):
    """What is left of the letters by each loss of some of them, in their turn."""
    left = [[]]
    for letter in letters:
        left += [some + [letter] for some in left]
    return left


def ends_of(book, doubt, now):
    """What point 6 says of ends, word by word."""
    told = []
    for (when, until, wants), words in zip(book, doubt):
        over = ["back", "late", "none", "held"] if now >= until else ["back", "late"]
        if words == ["done"]:
            told.append("done")
        elif set(words) <= set(over):
            told.append("not")
        else:
            told.append(None)
    return told


class EveryLoss:
    """A ground that runs a craft for every loss of letters, and keeps those that go with the reports.

    `ways` has for each turn of states, from beat 0 to now, that some losses come to one list of what was heard.
    """

    def __init__(self, book, delay):
        self.book = book
        self.delay = delay
        self.beats = 0
        self.under_way = {}
        self.ways = {(Craft(book).beat([]),): [[]]}

    def send(self, letters):
        self.under_way.setdefault(self.beats + self.delay, []).extend(letters)

    def beat(self):
        self.beats += 1
        ways = {}
        for states, heard in self.ways.items():
            for letters in parts(self.under_way.get(self.beats, [])):
                turn = heard + [letters]
                craft = Craft(self.book)
                ways[tuple(craft.beat(some) for some in turn)] = turn
        self.ways = ways

    def can_hear(self, beat, report):
        return 0 <= beat <= self.beats and any(states[beat] == report for states in self.ways)

    def hear(self, beat, report):
        self.ways = {states: heard for states, heard in self.ways.items() if states[beat] == report}

    def doubt(self):
        last = {states[-1] for states in self.ways}
        return [[word for word in WORDS if word in words] for words in zip(*last)]

    def ends(self):
        return ends_of(self.book, self.doubt(), self.beats)


class EveryState:
    """The same for more letters: it keeps only the states behind this beat, so reports are heard of this beat alone."""

    def __init__(self, book, delay):
        self.book = book
        self.delay = delay
        self.beats = 0
        self.under_way = {}
        self.states = {("none",) * len(book)}

    def send(self, letters):
        self.under_way.setdefault(self.beats + self.delay, []).extend(letters)

    def beat(self):
        self.beats += 1
        states = self.states
        for letter_word, number in self.under_way.get(self.beats, []):
            states = states | {self.heard(state, letter_word, number) for state in states}
        self.states = {self.done(state) for state in states}

    def heard(self, state, letter_word, number):
        words = list(state)
        if letter_word == "cmd" and words[number] == "none":
            words[number] = "held"
        if letter_word == "back" and words[number] in ("none", "held"):
            words[number] = "back"
        return tuple(words)

    def done(self, state):
        words = list(state)
        for number, (when, until, wants) in enumerate(self.book):
            if words[number] == "held" and self.beats > until:
                words[number] = "late"
            elif words[number] == "held" and self.beats >= when and all(words[want] == "done" for want in wants):
                words[number] = "done"
        return tuple(words)

    def hear(self, report):
        self.states = {state for state in self.states if state == report}

    def doubt(self):
        return [[word for word in WORDS if word in words] for words in zip(*self.states)]


def all_reports(many):
    return itertools.product(WORDS, repeat=many)
