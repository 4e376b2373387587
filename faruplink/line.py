"""The line: a ground, a craft, and what flies between them."""

from faruplink.craft import Craft
from faruplink.doubt import Ground
from faruplink.errors import BadCount, NoCommand, NoLetter, NoWindow
from faruplink.words import CALL_BACK, CMD, is_open, is_within, look_over_windows


class Line:
    """A line with a book, a delay and windows, at beat 0."""

    def __init__(self, book, delay, windows):
        self.ground = Ground(book, delay)
        look_over_windows(windows)
        self.windows = windows
        self.delay = delay
        self.many = len(book)
        self.craft = Craft(book)
        self.state = self.craft.beat([])
        # Pairs of the beat at which a letter comes, and the letter; pairs of a report's beat, and the report.
        self.up = []
        self.down = []
        self.entries = []

    def send(self, number):
        """Send a command."""
        self.send_letter(CMD, number)
        self.entries.append(("send", number))

    def call(self, number):
        """Call a command back."""
        self.send_letter(CALL_BACK, number)
        self.entries.append(("call", number))

    def send_letter(self, letter_word, number):
        """Send a letter up, if there is such a command and a window is open."""
        if not is_within(number, 0, self.many - 1):
            raise NoCommand(f"the book has {self.many} commands")
        if not is_open(self.windows, self.now()):
            raise NoWindow(f"no window is open at beat {self.now()}")
        self.ground.send([(letter_word, number)])
        self.up.append((self.now() + self.delay, (letter_word, number)))

    def lose(self, number):
        """Lose the letter with this number of those that fly up."""
        if not is_within(number, 0, len(self.up) - 1):
            raise NoLetter(f"{len(self.up)} letters fly")
        self.up.pop(number)

    def beat(self, lost):
        """Let a beat go by; the craft's report is lost if 1 is told. Tell the beats of the reports that are heard."""
        if not is_within(lost, 0, 1):
            raise BadCount("of one report 0 or 1 is lost")
        # Over is refused by the ground, ahead of all that changes.
        self.ground.beat()
        self.entries.append(("beat",))
        self.state = self.craft.beat(self.letters_that_come())
        if lost == 0:
            self.down.append((self.now(), self.state))
        return self.hear_reports()

    def letters_that_come(self):
        """Take the letters out of those that fly up that come at this beat."""
        now = self.now()
        letters = [letter for beat, letter in self.up if beat == now]
        self.up = [(beat, letter) for beat, letter in self.up if beat > now]
        return letters

    def hear_reports(self):
        """Let the ground hear the reports that come by now, and tell their beats."""
        last = self.now() - self.delay
        coming = [(beat, report) for beat, report in self.down if beat <= last]
        self.down = [(beat, report) for beat, report in self.down if beat > last]
        for beat, report in coming:
            self.ground.hear(beat, report)
            self.entries.append(("heard", beat, report))
        return [beat for beat, report in coming]

    def has(self):
        """The craft's state behind this beat."""
        return self.state

    def doubt(self):
        """For each command the words that the craft may have of it, as far as the ground can tell."""
        return self.ground.doubt()

    def ends(self):
        """For each command "done" or "not", if the ground is sure of it, else None."""
        return self.ground.ends()

    def now(self):
        """The beat."""
        return self.ground.now()

    def waits(self):
        """How many letters fly up, and how many reports down."""
        return (len(self.up), len(self.down))

    def log(self):
        """All that came about at the ground, in turn."""
        return list(self.entries)
