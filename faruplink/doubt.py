"""The ground: what the craft may have of each command, by all that was sent and heard."""

from faruplink.craft import word_heard
from faruplink.errors import BadReport, Over
from faruplink.words import BACK, CMD, DONE, HELD, LAST_BEAT, LATE, NONE, WORDS
from faruplink.words import first_state, is_report, is_within, look_over_book, look_over_delay, look_over_letters

# Later than every beat: the beat at which a command is done that is not done.
NEVER = 201


def in_turn(words):
    """These words, each once, in the turn in which they are told."""
    return [word for word in WORDS if word in words]


def words_of_held(command, may, beat):
    """The words that a held command may have behind this beat."""
    when, until, wants = command
    if beat > until:
        return [LATE]
    if beat < when:
        return [HELD]
    words = []
    # Each cmd that is heard, and each back that is lost, only makes what is done be done sooner:
    # those that may be done each by itself may all be done at once.
    if all(DONE in may[want] for want in wants):
        words.append(DONE)
    if any(may[want] != [DONE] for want in wants):
        words.append(HELD)
    return words


def words_after(book, may, beat, letters):
    """The words that each command may have behind this beat, from those that it may have ahead of it.

    This is exact for each command by itself if all is known of the state from which it began.
    """
    after = [list(words) for words in may]
    for letter_word, number in letters:
        heard = [word_heard(word, letter_word) for word in after[number]]
        after[number] = in_turn(after[number] + heard)
    for number, command in enumerate(book):
        if HELD in after[number]:
            others = [word for word in after[number] if word != HELD]
            after[number] = in_turn(others + words_of_held(command, after, beat))
    return after


class Stretch:
    """The beats from a state behind one of them to a report of a later one, and the letters that come in them.

    What is not done has no bearing on the others, whatever its word is: so only the beats at which
    commands are done are tried, and each other command is looked at by itself.
    """

    def __init__(self, book, first, state, last, report):
        self.book = book
        self.first = first
        self.state = state
        self.last = last
        self.report = report
        self.cmds = [[] for command in book]
        self.backs = [[] for command in book]

    def take_letters(self, beat, letters):
        """Take the letters that come at this beat, beats rising."""
        for letter_word, number in letters:
            beats = self.cmds[number] if letter_word == CMD else self.backs[number]
            if beat not in beats[-1:]:
                beats.append(beat)

    def may_be(self):
        """Whether some losses of its letters lead from the state to the report."""
        return self.may_go_on([], self.bounds())

    def bounds(self):
        """The beats from which on a command must be done at the earliest to keep one that wants it waiting.

        Between two of these it makes no difference but that sooner is better.
        """
        beats = [self.first + 1]
        for number, word in enumerate(self.report):
            if word == LATE:
                beats.append(self.book[number][1] + 1)
            if word == BACK and self.backs[number]:
                beats.append(self.backs[number][0])
        return sorted(set(beats))

    def may_go_on(self, dones, bounds):
        """Whether the commands may come to the report if those of the first numbers are done at these beats."""
        number = len(dones)
        if number == len(self.book):
            return True
        if self.report[number] != DONE:
            return self.may_end_undone(number, dones) and self.may_go_on([*dones, NEVER], bounds)
        for beat in self.beats_to_try(number, dones, bounds):
            if self.may_go_on([*dones, beat], bounds):
                return True
        return False

    def beats_to_try(self, number, dones, bounds):
        """The beats at which a command may be done: the soonest from each bound on."""
        if self.state[number] == DONE:
            return [self.first]
        if self.state[number] in (BACK, LATE):
            return []
        when, until, wants = self.book[number]
        ready = max(self.first + 1, when)
        for want in wants:
            ready = max(ready, dones[want])
        beats = []
        for bound in bounds:
            beat = self.soonest_done(number, ready, bound)
            if beat <= min(until, self.last) and beat not in beats:
                beats.append(beat)
        return beats

    def soonest_done(self, number, ready, bound):
        """The soonest beat from the bound on at which a command is done that could be from `ready` on."""
        if self.state[number] == HELD:
            return ready if ready >= bound else NEVER
        if ready >= bound and self.cmd_came(number, ready):
            return ready
        for beat in self.cmds[number]:
            if beat >= ready and beat >= bound:
                return beat
        return NEVER

    def cmd_came(self, number, beat):
        """Whether a cmd for this command comes by this beat."""
        return len(self.cmds[number]) > 0 and self.cmds[number][0] <= beat

    def may_end_undone(self, number, dones):
        """Whether a command may have its word of the report, which is not "done"."""
        word = self.state[number]
        end = self.report[number]
        if word not in (NONE, HELD) or end == NONE:
            return word == end
        if end == HELD:
            return self.may_hold(number, self.last, dones)
        if end == BACK:
            return self.may_be_called_back(number, dones)
        return self.may_be_late(number, dones)

    def may_hold(self, number, beat, dones):
        """Whether a command may be held behind this beat."""
        when, until, wants = self.book[number]
        if beat > until or not (self.state[number] == HELD or self.cmd_came(number, beat)):
            return False
        return beat < when or any(dones[want] > beat for want in wants)

    def may_be_called_back(self, number, dones):
        """Whether a command that was none or held may be called back."""
        if not self.backs[number]:
            return False
        # What is held is the surest to be so still when the first back comes.
        return self.state[number] == NONE or self.may_hold(number, self.backs[number][0] - 1, dones)

    def may_be_late(self, number, dones):
        """Whether a command that was none or held may be late."""
        until = self.book[number][1]
        if self.last <= until:
            return False
        if self.state[number] == NONE and self.cmds[number] and self.cmds[number][-1] > until:
            return True
        return self.may_hold(number, until, dones)


def end_of(command, words, beat):
    """What is sure of a command that may have these words behind this beat: "done", "not" or None."""
    if words == [DONE]:
        return DONE
    over = (BACK, LATE, NONE, HELD) if beat >= command[1] else (BACK, LATE)
    return "not" if all(word in over for word in words) else None


class Ground:
    """A ground with a book, so many beats away from its craft, at beat 0."""

    def __init__(self, book, delay):
        look_over_book(book)
        look_over_delay(delay)
        self.book = book
        self.delay = delay
        self.present = 0
        # All letters that ever come to the craft, by the beat at which they do: reports may be heard late.
        self.coming_at = {}
        # No letter comes at beat 0, so that state is known as if it had been reported.
        self.known = {0: first_state(len(book))}
        self.may = self.words_from(0)

    def send(self, letters):
        """Send letters at this beat."""
        look_over_letters(letters, len(self.book))
        self.coming_at.setdefault(self.present + self.delay, []).extend(letters)

    def beat(self):
        """Let a beat go by."""
        if self.present >= LAST_BEAT:
            raise Over(f"no beat is behind {LAST_BEAT}")
        self.present += 1
        self.may = words_after(self.book, self.may, self.present, self.letters_at(self.present))

    def hear(self, beat, report):
        """Hear a report of the state behind a beat."""
        if not is_within(beat, 0, self.present) or not is_report(report, len(self.book)):
            raise BadReport("this is no report of a beat that was")
        if not self.goes_with_known(beat, report):
            raise BadReport("no losses of letters come to this report")
        self.known[beat] = report
        # A report tells the whole state: what was ahead of the last one has no bearing on what comes behind it.
        if beat == max(self.known):
            self.may = self.words_from(beat)

    def now(self):
        """The beat."""
        return self.present

    def doubt(self):
        """For each command the words that the craft may have of it behind this beat."""
        return [list(words) for words in self.may]

    def ends(self):
        """For each command "done" or "not", if this is sure, else None."""
        return [end_of(command, words, self.present) for command, words in zip(self.book, self.may)]

    def letters_at(self, beat):
        """The letters that come to the craft at this beat, if they are not lost."""
        return self.coming_at.get(beat, [])

    def words_from(self, beat):
        """The words that each command may have now, from a state that is known."""
        may = [[word] for word in self.known[beat]]
        for later in range(beat + 1, self.present + 1):
            may = words_after(self.book, may, later, self.letters_at(later))
        return may

    def goes_with_known(self, beat, report):
        """Whether some losses come to this report and to all that are known."""
        if beat in self.known:
            return report == self.known[beat]
        # The losses ahead of a known state and those behind it are apart: the nearest ones tell all.
        before = max([other for other in self.known if other < beat])
        if not self.may_lead(before, self.known[before], beat, report):
            return False
        later = [other for other in self.known if other > beat]
        return not later or self.may_lead(beat, report, min(later), self.known[min(later)])

    def may_lead(self, first, state, last, report):
        """Whether some losses lead from a state behind one beat to a report of a later one."""
        stretch = Stretch(self.book, first, state, last, report)
        for beat in range(first + 1, last + 1):
            stretch.take_letters(beat, self.letters_at(beat))
        return stretch.may_be()
