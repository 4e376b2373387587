"""What can be told of a craft by trying every loss of letters, and every order of sends, for the tests."""

import itertools

from faruplink.craft import Craft

WORDS = ("none", "held", "done", "back", "late")


def cmd(number):
    return ("cmd", number)


def back(number):
    return ("back", number)


def parts(letters):
    """What is left of the letters by each loss of some of them, in their turn."""
    left = [[]]
    for letter in letters:
        left += [some + [letter] for some in left]
    return left


def ends_of(book, doubt, now):
    """What point 6 says of ends, word by word."""
    told = []
    for (when, until, wants), words in zip(book, doubt):
        over = ["back", "late", "none", "held"] if now >= until else ["back", "late"]
        if words == ["done"]:
            told.append("done")
        elif set(words) <= set(over):
            told.append("not")
        else:
            told.append(None)
    return told


def all_done(book, delay, sends):
    """The first beat behind which a craft that hears these sends, pairs of beat and number, has done all; else None."""
    craft = Craft(book)
    for now in range(201):
        state = craft.beat([cmd(number) for beat, number in sends if beat + delay == now])
        if state == ("done",) * len(book):
            return now
        # What is late stays so, and behind all untils nothing more is done.
        if "late" in state or now > max(until for when, until, wants in book):
            return None
    return None


def lists_of_lost(many, most):
    """Each rising list of at most so many numbers of sends, the shortest first, then as lists ascend."""
    for length in range(most + 1):
        yield from (list(lost) for lost in itertools.combinations(range(many), length))


def without(sends, lost):
    """What is left of the sends by this loss."""
    return [send for at, send in enumerate(sends) if at not in lost]


def all_done_at_worst(book, delay, sends, most):
    """The beat by which all are done whichever sends, at most so many, are lost; None if by some loss they aren't."""
    worst = 0
    for lost in lists_of_lost(len(sends), most):
        beat = all_done(book, delay, without(sends, lost))
        if beat is None:
            return None
        worst = max(worst, beat)
    return worst


def sturdy_by_trying(book, delay, windows, most):
    """What point 10 says of sturdy, by trying every order and every loss, and how many orders are as soon."""
    beats = [beat for begin, end in windows for beat in range(begin, end)]
    found = []
    for order in itertools.permutations(range(len(book))):
        numbers = [number for number in order for again in range(most + 1)]
        sends = list(zip(beats, numbers))
        if len(sends) == len(numbers):
            worst = all_done_at_worst(book, delay, sends, most)
            if worst is not None:
                found.append((worst, numbers, sends))
    if not found:
        return None, 0
    beat, numbers, sends = min(found)
    return (beat, sends), [other for other, *rest in found].count(beat)


def weak_by_trying(book, delay, sends, most):
    """What point 11 says of weak, by trying every loss."""
    for lost in lists_of_lost(len(sends), most):
        if all_done(book, delay, without(sends, lost)) is None:
            return lost
    return None


class EveryLoss:
    """A ground that runs a craft for every loss of letters, and keeps those that go with the reports.

    `ways` has for each turn of states, from beat 0 to now, that some losses come to one list of what was heard.
    """

    def __init__(self, book, delay):
        self.book = book
        self.delay = delay
        self.beats = 0
        self.under_way = {}
        self.ways = {(Craft(book).beat([]),): [[]]}

    def send(self, letters):
        self.under_way.setdefault(self.beats + self.delay, []).extend(letters)

    def beat(self):
        self.beats += 1
        ways = {}
        for states, heard in self.ways.items():
            for letters in parts(self.under_way.get(self.beats, [])):
                turn = heard + [letters]
                craft = Craft(self.book)
                ways[tuple(craft.beat(some) for some in turn)] = turn
        self.ways = ways

    def can_hear(self, beat, report):
        return 0 <= beat <= self.beats and any(states[beat] == report for states in self.ways)

    def hear(self, beat, report):
        self.ways = {states: heard for states, heard in self.ways.items() if states[beat] == report}

    def doubt(self):
        last = {states[-1] for states in self.ways}
        return [[word for word in WORDS if word in words] for words in zip(*last)]

    def ends(self):
        return ends_of(self.book, self.doubt(), self.beats)


class EveryState:
    """The same for more letters: it keeps only the states behind this beat, so reports are heard of this beat alone."""

    def __init__(self, book, delay):
        self.book = book
        self.delay = delay
        self.beats = 0
        self.under_way = {}
        self.states = {("none",) * len(book)}

    def send(self, letters):
        self.under_way.setdefault(self.beats + self.delay, []).extend(letters)

    def beat(self):
        self.beats += 1
        states = self.states
        for letter_word, number in self.under_way.get(self.beats, []):
            states = states | {self.heard(state, letter_word, number) for state in states}
        self.states = {self.done(state) for state in states}

    def heard(self, state, letter_word, number):
        words = list(state)
        if letter_word == "cmd" and words[number] == "none":
            words[number] = "held"
        if letter_word == "back" and words[number] in ("none", "held"):
            words[number] = "back"
        return tuple(words)

    def done(self, state):
        words = list(state)
        for number, (when, until, wants) in enumerate(self.book):
            if words[number] == "held" and self.beats > until:
                words[number] = "late"
            elif words[number] == "held" and self.beats >= when and all(words[want] == "done" for want in wants):
                words[number] = "done"
        return tuple(words)

    def hear(self, report):
        self.states = {state for state in self.states if state == report}

    def doubt(self):
        return [[word for word in WORDS if word in words] for words in zip(*self.states)]


def all_reports(many):
    return itertools.product(WORDS, repeat=many)
