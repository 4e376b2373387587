"""Judging: whether what a log tells can have come about at the ground of a line."""

from faruplink.doubt import Ground
from faruplink.errors import BadLetters, BadReport
from faruplink.words import LAST_BEAT, is_open, is_report, is_within, look_over_windows

MOST_ENTRIES = 400
LETTER_WORDS = {"send": "cmd", "call": "back"}


def is_entry(entry, many):
    """Whether this has the form of an entry of a log of so many commands."""
    if not isinstance(entry, tuple) or not entry:
        return False
    if entry[0] in ("send", "call"):
        return len(entry) == 2 and is_within(entry[1], 0, many - 1)
    if entry[0] == "heard":
        return len(entry) == 3 and is_within(entry[1], 0, LAST_BEAT) and is_report(entry[2], many)
    return entry == ("beat",)


def look_over_log(log, many):
    """Refuse what is no log of so many commands, by the first entry that is none."""
    for at, entry in enumerate(log):
        if at >= MOST_ENTRIES or not is_entry(entry, many):
            raise BadLetters(at)


class Judge:
    """What goes ahead of the next entry of a log."""

    def __init__(self, book, delay, windows):
        self.ground = Ground(book, delay)
        look_over_windows(windows)
        self.delay = delay
        self.windows = windows
        self.last_heard = 0

    def takes(self, entry):
        """Whether this entry can be; if so, it has come about."""
        if entry[0] == "beat":
            return self.takes_beat()
        if entry[0] == "heard":
            return self.takes_heard(entry[1], entry[2])
        return self.takes_letter(LETTER_WORDS[entry[0]], entry[1])

    def takes_letter(self, letter_word, number):
        """Whether a letter can be sent."""
        if not is_open(self.windows, self.ground.now()):
            return False
        self.ground.send([(letter_word, number)])
        return True

    def takes_beat(self):
        """Whether a beat can go by."""
        if self.ground.now() >= LAST_BEAT:
            return False
        self.ground.beat()
        return True

    def takes_heard(self, beat, report):
        """Whether this report of a beat can be heard."""
        # Beats are heard of rising, one a beat, as each is so many beats behind: 0 is never, and none twice.
        if beat != self.ground.now() - self.delay or beat <= self.last_heard:
            return False
        try:
            self.ground.hear(beat, report)
        except BadReport:
            return False
        self.last_heard = beat
        return True


def judged(book, delay, windows, log):
    """The number of the first entry of a log that can't be behind those ahead, None for none."""
    judge = Judge(book, delay, windows)
    look_over_log(log, len(book))
    for number, entry in enumerate(log):
        if not judge.takes(entry):
            return number
    return None
