"""Point 9: logs, judged."""

import random
import unittest

from every_loss import EveryState
from faruplink.errors import BadLetters
from faruplink.judging import judged
from faruplink.line import Line

LONG = (0, 200, ())
ALWAYS = ((0, 200),)
BEAT = ("beat",)


def send(number):
    return ("send", number)


def call(number):
    return ("call", number)


def heard(beat, *report):
    return ("heard", beat, report)


def judged_by_trying(book, delay, windows, log):
    """The same as judged, by every loss of letters."""
    # Reports are heard of the beat that is so many ahead: it runs as far behind.
    craft = EveryState(book, delay)
    now = 0
    last = 0
    for number, (word, *rest) in enumerate(log):
        if word == "beat" and now < 200:
            now += 1
            if now > delay:
                craft.beat()
        elif word in ("send", "call") and any(begin <= now < end for begin, end in windows):
            craft.under_way.setdefault(now + delay, []).append(("cmd" if word == "send" else "back", *rest))
        elif word == "heard" and last < rest[0] == now - delay and rest[1] in craft.states:
            craft.hear(rest[1])
            last = rest[0]
        else:
            return number
    return None


def some_line(chance, beats=14):
    """A book, a delay, windows, and a line that was played by chance."""
    book = []
    for number in range(chance.randint(1, 3)):
        when = chance.randint(0, 5)
        wants = tuple(want for want in range(number) if chance.random() < 0.5)
        book.append((when, chance.randint(when, 12), wants))
    delay = chance.randint(1, 3)
    windows = chance.choice((((0, 9),), ((0, 2), (2, 3), (5, 8)), ((1, 4), (6, 7))))
    line = Line(tuple(book), delay, windows)
    risk = chance.choice((0, 0.3, 0.7))
    for beat in range(beats):
        for again in range(chance.randint(0, 2)):
            if any(begin <= beat < end for begin, end in windows):
                chance.choice((line.send, line.send, line.call))(chance.randrange(len(book)))
        if line.waits()[0] and chance.random() < 0.4:
            line.lose(chance.randrange(line.waits()[0]))
        line.beat(1 if chance.random() < risk else 0)
    return tuple(book), delay, windows, line


def told_otherwise(entry, many):
    """Entries that are like this one but for one thing."""
    if entry == BEAT:
        return [send(0), call(many - 1), heard(1, *["none"] * many)]
    if entry[0] in ("send", "call"):
        others = [(entry[0], number) for number in range(many) if number != entry[1]]
        return [BEAT, ("call" if entry[0] == "send" else "send", entry[1]), *others]
    word, beat, report = entry
    others = [("heard", other, report) for other in (beat - 1, beat + 1) if 0 <= other <= 200]
    for number in range(many):
        for other in ("none", "held", "done", "back", "late"):
            if other != report[number]:
                others.append(("heard", beat, (*report[:number], other, *report[number + 1:])))
    return [BEAT, *others]


class Interface(unittest.TestCase):
    def test_an_empty_log(self):
        self.assertIsNone(judged((LONG,), 1, (), []))

    def test_a_number_or_none(self):
        self.assertIs(judged((LONG,), 1, (), [send(0)]).__class__, int)


class LogsOfLines(unittest.TestCase):
    def test_whole_and_cut_off_anywhere(self):
        for seed in range(60):
            book, delay, windows, line = some_line(random.Random(seed))
            log = line.log()
            for many in range(len(log) + 1):
                self.assertIsNone(judged(book, delay, windows, log[:many]), (seed, many))

    def test_up_to_beat_200(self):
        book, delay, windows, line = some_line(random.Random(3), beats=200)
        log = [entry for entry in line.log() if entry[0] != "heard" or entry[1] % 2][:400]
        self.assertEqual(log.count(BEAT), 200)
        self.assertIsNone(judged(book, delay, windows, log))

    def test_eight_commands(self):
        book = tuple((number, 100, tuple(range(number))) for number in range(8))
        line = Line(book, 2, ALWAYS)
        for beat in range(20):
            for number in range(8):
                line.send(number)
            line.beat(0)
        log = line.log()
        self.assertIsNone(judged(book, 2, ALWAYS, log))
        at, (word, beat, report) = [(at, entry) for at, entry in enumerate(log) if entry[0] == "heard"][-1]
        self.assertEqual(judged(book, 2, ALWAYS, [*log[:at], heard(beat, *report[:7], "late")]), at)


class LogsOfLinesChanged(unittest.TestCase):
    def assert_same(self, book, delay, windows, log, why):
        told = judged(book, delay, windows, log)
        self.assertEqual(told, judged_by_trying(book, delay, windows, log), (why, book, delay, windows, log))
        return told

    def runs(self, many):
        for seed in range(many):
            book, delay, windows, line = some_line(random.Random(seed), beats=10)
            yield book, delay, windows, line.log()

    def test_one_entry_told_otherwise_at_each_place(self):
        wrong = 0
        for book, delay, windows, log in self.runs(40):
            for at, entry in enumerate(log):
                for other in told_otherwise(entry, len(book)):
                    told = self.assert_same(book, delay, windows, [*log[:at], other, *log[at + 1:]], "otherwise")
                    self.assertTrue(told is None or told >= at)
                    wrong += told is not None
        self.assertGreater(wrong, 1000)

    def test_one_entry_left_out_at_each_place(self):
        for book, delay, windows, log in self.runs(40):
            for at in range(len(log)):
                told = self.assert_same(book, delay, windows, log[:at] + log[at + 1:], "left out")
                if log[at][0] == "heard":
                    self.assertIsNone(told)

    def test_one_entry_told_twice_at_each_place(self):
        for book, delay, windows, log in self.runs(40):
            for at, entry in enumerate(log):
                told = self.assert_same(book, delay, windows, [*log[:at], entry, *log[at:]], "twice")
                if entry[0] == "heard":
                    self.assertEqual(told, at + 1)
                elif entry != BEAT:
                    self.assertIsNone(told)

    def test_two_entries_exchanged_at_each_place(self):
        for book, delay, windows, log in self.runs(15):
            for at in range(len(log)):
                for other in range(at):
                    changed = list(log)
                    changed[at], changed[other] = log[other], log[at]
                    self.assert_same(book, delay, windows, changed, "exchanged")

    def test_one_entry_put_in_at_each_place(self):
        for book, delay, windows, log in self.runs(25):
            for entry in sorted(set(log), key=repr):
                for at in range(len(log) + 1):
                    self.assert_same(book, delay, windows, [*log[:at], entry, *log[at:]], "put in")


class SendsAndCalls(unittest.TestCase):
    def test_in_a_window_and_outside(self):
        for beat in range(10):
            for entry in (send(0), call(0)):
                log = [BEAT] * beat + [entry, BEAT]
                inside = beat in (2, 3, 4, 7)
                self.assertEqual(judged((LONG,), 1, ((2, 4), (4, 5), (7, 8)), log), None if inside else beat)

    def test_no_windows(self):
        self.assertEqual(judged((LONG,), 1, (), [send(0)]), 0)
        self.assertEqual(judged((LONG,), 1, (), [BEAT, call(0), BEAT]), 1)

    def test_at_beat_200(self):
        self.assertIsNone(judged((LONG,), 1, ALWAYS, [BEAT] * 199 + [send(0)]))
        self.assertEqual(judged((LONG,), 1, ALWAYS, [BEAT] * 200 + [send(0)]), 200)

    def test_the_first_of_two_that_can_not_be(self):
        self.assertEqual(judged((LONG,), 1, ((0, 1),), [send(0), BEAT, send(0), call(0), heard(5, "none")]), 2)


class Beats(unittest.TestCase):
    def test_as_long_as_there_is_one(self):
        self.assertIsNone(judged((LONG,), 1, (), [BEAT] * 200))
        for more in (1, 2, 100, 200):
            self.assertEqual(judged((LONG,), 1, (), [BEAT] * (200 + more)), 200)

    def test_behind_other_entries(self):
        self.assertEqual(judged((LONG,), 1, ALWAYS, [send(0), call(0)] + [BEAT] * 201), 202)


class Heard(unittest.TestCase):
    def test_just_as_many_beats_later_as_the_delay_is(self):
        for delay in range(1, 10):
            for now in range(25):
                for beat in range(25):
                    log = [BEAT] * now + [heard(beat, "none")]
                    can_be = beat >= 1 and now == beat + delay
                    self.assertEqual(judged((LONG,), delay, (), log), None if can_be else now)

    def test_beat_0_is_never_heard_of(self):
        for delay in range(1, 10):
            for now in range(12):
                self.assertEqual(judged((LONG,), delay, (), [BEAT] * now + [heard(0, "none")]), now)

    def test_a_beat_too_early_and_too_late(self):
        for delay in (1, 2, 9):
            beats = [BEAT] * (4 + delay)
            self.assertEqual(judged((LONG,), delay, (), beats[1:] + [heard(4, "none")]), len(beats) - 1)
            self.assertIsNone(judged((LONG,), delay, (), beats + [heard(4, "none")]))
            self.assertEqual(judged((LONG,), delay, (), [BEAT] + beats + [heard(4, "none")]), len(beats) + 1)

    def test_each_once(self):
        log = [BEAT, BEAT, heard(1, "none"), BEAT, heard(2, "none")]
        self.assertIsNone(judged((LONG,), 1, (), log))
        self.assertEqual(judged((LONG,), 1, (), [*log, log[-1]]), 5)
        self.assertEqual(judged((LONG,), 1, (), [*log[:3], log[2], BEAT]), 3)

    def test_of_beats_up_to_191_with_the_longest_delay(self):
        self.assertIsNone(judged((LONG,), 9, (), [BEAT] * 200 + [heard(191, "none")]))
        self.assertEqual(judged((LONG,), 9, (), [BEAT] * 200 + [heard(192, "none")]), 200)
        self.assertEqual(judged((LONG,), 9, (), [BEAT] * 200 + [heard(200, "none")]), 200)

    def test_a_report_that_no_losses_come_to(self):
        log = [send(0), BEAT, BEAT]
        self.assertIsNone(judged((LONG,), 1, ALWAYS, [*log, heard(1, "done")]))
        self.assertIsNone(judged((LONG,), 1, ALWAYS, [*log, heard(1, "none")]))
        for word in ("held", "back", "late"):
            self.assertEqual(judged((LONG,), 1, ALWAYS, [*log, heard(1, word), BEAT]), 3)

    def test_a_report_that_does_not_go_with_one_ahead(self):
        log = [send(0), BEAT, BEAT]
        self.assertEqual(judged((LONG,), 1, ALWAYS, [*log, heard(1, "done"), BEAT, heard(2, "none")]), 5)
        self.assertEqual(judged((LONG,), 1, ALWAYS, [*log, heard(1, "none"), BEAT, heard(2, "done")]), 5)
        self.assertIsNone(judged((LONG,), 1, ALWAYS, [*log, BEAT, heard(2, "done")]))

    def test_a_report_behind_a_send_of_the_same_beat(self):
        self.assertIsNone(judged((LONG,), 1, ALWAYS, [BEAT, BEAT, send(0), heard(1, "none"), call(0)]))


class NoLogs(unittest.TestCase):
    BOOK = (LONG, LONG)
    WRONG = (
        (), (0,), ("",), ("send",), ("call",), ("heard",), ["send", 0], ["beat"],
        ("lose", 0), ("cmd", 0), ("back", 0), ("Send", 0), ("send ", 0),
        ("send", 2), ("call", 2), ("send", -1), ("call", -1), ("send", 8), ("send", 0, 0), ("call", 0, 1),
        ("send", "0"), ("call", ""), ("send", ()), ("send", True), ("call", False), (0, "send"), (0, 0),
        ("beat", 0), ("beat", 1), ("beat", "beat"), ("beats",), ("heard", 1), ("heard", ("none", "none")),
        ("heard", -1, ("none", "none")), ("heard", 201, ("none", "none")), ("heard", 1000, ("none", "none")),
        ("heard", "1", ("none", "none")), ("heard", True, ("none", "none")), ("heard", ("none", "none"), 1),
        ("heard", 1, ("none", "none"), 0), ("heard", 1, "none", "none"), ("heard", 1, "none"), ("heard", 1, 1),
        ("heard", 1, ()), ("heard", 1, ("none",)), ("heard", 1, ("none",) * 3), ("heard", 1, ("none", "gone")),
        ("heard", 1, ("cmd", "none")), ("heard", 1, ("none", 0)), ("heard", 1, ("none", ("none",))),
    )

    def assert_refused(self, log, at):
        handed = list(log)
        with self.assertRaises(BadLetters, msg=log) as caught:
            judged(self.BOOK, 1, ALWAYS, handed)
        self.assertEqual(caught.exception.at, at, log)
        self.assertEqual(handed, log)

    def test_entries_that_are_none_at_each_place(self):
        fine = [send(0), BEAT, call(1), BEAT, heard(1, "done", "none")]
        self.assertIsNone(judged(self.BOOK, 1, ALWAYS, fine))
        for wrong in self.WRONG:
            for at in range(6):
                self.assert_refused([*fine[:at], wrong, *fine[at:]], at)

    def test_two_of_them(self):
        for wrong in self.WRONG:
            for other in self.WRONG:
                self.assert_refused([wrong, other], 0)
                self.assert_refused([BEAT, wrong, BEAT, other], 1)

    def test_behind_an_entry_that_can_not_be(self):
        for wrong in self.WRONG:
            self.assert_refused([heard(7, "none", "none"), send(0), wrong], 2)

    def test_heard_of_beats_0_and_200_are_entries(self):
        self.assertEqual(judged(self.BOOK, 1, ALWAYS, [BEAT, heard(0, "none", "none")]), 1)
        self.assertEqual(judged(self.BOOK, 1, ALWAYS, [BEAT, heard(200, "none", "none")]), 1)

    def test_numbers_by_the_size_of_the_book(self):
        for many in range(1, 9):
            book = (LONG,) * many
            self.assertIsNone(judged(book, 1, ALWAYS, [send(many - 1), call(many - 1)]))
            for entry in (send(many), call(many), heard(1, *["none"] * (many + 1)), heard(1, *["none"] * (many - 1))):
                with self.assertRaises(BadLetters) as caught:
                    judged(book, 1, ALWAYS, [BEAT, entry])
                self.assertEqual(caught.exception.at, 1)

    def test_a_400th_and_a_401st(self):
        self.assertIsNone(judged(self.BOOK, 1, ALWAYS, [send(0)] * 400))
        self.assertEqual(judged(self.BOOK, 1, ALWAYS, [send(0)] * 399 + [heard(1, "none", "none")]), 399)
        self.assert_refused([send(0)] * 399 + [()], 399)
        for more in (1, 2, 50):
            self.assert_refused([send(0)] * (400 + more), 400)
            self.assert_refused([BEAT] * (400 + more), 400)
            self.assert_refused([send(0)] * 400 + [()] * more, 400)
            self.assert_refused([send(0)] * 399 + [()] * (1 + more), 399)
            self.assert_refused([()] + [send(0)] * (399 + more), 0)


class TheListThatIsHandedIn(unittest.TestCase):
    def test_it_stays(self):
        for log in ([send(0), BEAT, BEAT, heard(1, "done")], [BEAT, send(0), heard(1, "late"), BEAT], [BEAT] * 250):
            handed = list(log)
            told = judged((LONG,), 1, ALWAYS, handed)
            self.assertEqual(handed, log)
            self.assertEqual(judged((LONG,), 1, ALWAYS, handed), told)


if __name__ == "__main__":
    unittest.main()
