"""Point 12: steps of a line, played."""

import random
import unittest

from faruplink.errors import BadBook, BadDelay, BadStep, BadWindows, LinkError
from faruplink.line import Line
from faruplink.plays import played

LONG = (0, 200, ())
TWO = (LONG, (5, 9, (0,)))
ALWAYS = ((0, 200),)
# What is no step by its form, as far as it is made of tuples, texts and numbers; and some of other kinds.
NO_STEPS = (
    (), (0,), ("",), ("send",), ("beat",), ("send", 0, 0), ("beat", 0, 0), ("send", "send", 0), ("send", 0, ""),
    ("", 0), ("Send", 0), ("send ", 0), (" send", 0), ("sends", 0), ("sen", 0), ("BEAT", 0), ("heard", 0), ("cmd", 0),
    ("back", 0), ("doubt", 0), ("now", 0), ("none", 0), ("no", 0),
    ("send", 100), ("call", 100), ("lose", 100), ("beat", 100), ("send", -1), ("call", -1), ("lose", -1), ("beat", -1),
    ("send", 101), ("beat", 1000), ("lose", -99), ("send", True), ("call", False), ("lose", True), ("beat", False),
    ("beat", True), ("send", "0"), ("call", ""), ("lose", "lose"), ("beat", ()), ("beat", (0,)), ("send", ("send", 0)),
    (0, "send"), (0, 0), ("send", "call"), (("send", 0),), (("send",), 0), ((), ()),
    "send 0", 0, ["send", 0], None,
)


def send(number):
    return ("send", number)


def call(number):
    return ("call", number)


def lose(number):
    return ("lose", number)


def beat(lost):
    return ("beat", lost)


def all_told(line):
    return (line.has(), line.doubt(), line.ends(), line.now(), line.waits(), line.log())


def by_hand(book, delay, windows, steps):
    """What the steps tell if a line is taken through them by its own methods."""
    line = Line(book, delay, windows)
    told = []
    for word, number in steps:
        try:
            told.append(getattr(line, word)(number))
        except LinkError:
            told.append("no")
    return told, line


class Interface(unittest.TestCase):
    def test_a_tuple_of_a_list_and_a_line(self):
        told = played(TWO, 1, ALWAYS, [send(0)])
        self.assertEqual([told.__class__, *(part.__class__ for part in told)], [tuple, list, Line])

    def test_no_steps(self):
        told, line = played(TWO, 1, ALWAYS, [])
        self.assertEqual(told, [])
        self.assertEqual(all_told(line), all_told(Line(TWO, 1, ALWAYS)))


class Steps(unittest.TestCase):
    def assert_told(self, steps, told, book=TWO, delay=1, windows=ALWAYS):
        self.assertEqual(played(book, delay, windows, steps)[0], told)

    def test_a_send(self):
        told, line = played(TWO, 2, ALWAYS, [send(1), send(0)])
        self.assertEqual((told, line.log(), line.waits()), ([None, None], [send(1), send(0)], (2, 0)))

    def test_a_call(self):
        told, line = played(TWO, 2, ALWAYS, [call(1), call(0)])
        self.assertEqual((told, line.log(), line.waits()), ([None, None], [call(1), call(0)], (2, 0)))

    def test_a_loss(self):
        told, line = played(TWO, 1, ALWAYS, [send(0), send(1), lose(1), beat(1)])
        self.assertEqual((told, line.has(), line.waits()), ([None, None, None, []], ("done", "none"), (0, 0)))
        told, line = played(TWO, 1, ALWAYS, [send(0), send(1), lose(0), beat(0)])
        self.assertEqual((told, line.has(), line.waits()), ([None, None, None, []], ("none", "held"), (0, 1)))

    def test_beats(self):
        self.assert_told([beat(0)] * 4, [[], [1], [2], [3]])
        self.assert_told([beat(0)] * 4, [[], [], [], [1]], delay=3)
        self.assert_told([beat(0), beat(1), beat(0), beat(1), beat(0)], [[], [1], [], [3], []])

    def test_no_such_command(self):
        for number in (2, 3, 8, 99):
            self.assert_told([send(number), call(number), send(1)], ["no", "no", None])

    def test_no_window(self):
        steps = [send(0), beat(0), send(0), call(1), beat(0), call(0), send(1)]
        self.assert_told(steps, ["no", [], None, None, [1], "no", "no"], windows=((1, 2),))
        self.assert_told([send(0), call(0)], ["no", "no"], windows=())

    def test_no_letter(self):
        self.assert_told([lose(0), send(0), lose(1), lose(99), lose(0), lose(0)], ["no", None, "no", "no", None, "no"])
        self.assert_told([send(0), beat(0), lose(0)], [None, [], "no"])

    def test_no_such_number_of_reports(self):
        for number in (2, 3, 50, 99):
            self.assert_told([beat(number), beat(0), beat(number), beat(0)], ["no", [], "no", [1]])

    def test_a_beat_behind_200(self):
        told, line = played(TWO, 1, ALWAYS, [beat(1)] * 200 + [beat(0), beat(1), beat(2), send(0), lose(0)])
        self.assertEqual(told, [[]] * 200 + ["no"] * 5)
        self.assertEqual((line.now(), len(line.log())), (200, 200))

    def test_numbers_0_and_99_of_each(self):
        steps = [send(0), call(0), lose(0), beat(0), send(99), call(99), lose(99), beat(99)]
        self.assert_told(steps, [None, None, None, [], "no", "no", "no", "no"])

    def test_what_is_refused_changes_nothing(self):
        fine = [send(0), send(1), lose(0), beat(0), call(1), send(0), beat(1), beat(0), beat(0)]
        refused = (send(2), call(99), lose(7), beat(2), beat(99))
        told, line = played(TWO, 1, ALWAYS, fine)
        for other in refused:
            for at in range(len(fine) + 1):
                again, beside = played(TWO, 1, ALWAYS, [*fine[:at], other, *fine[at:]])
                self.assertEqual(again, [*told[:at], "no", *told[at:]])
                self.assertEqual(all_told(beside), all_told(line))


class AgainstALine(unittest.TestCase):
    def test_some_plays(self):
        words = set()
        for seed in range(250):
            chance = random.Random(seed)
            book = tuple(
                (number, chance.randrange(10, 30), tuple(range(number)[:chance.randrange(2)]))
                for number in range(chance.randrange(1, 5))
            )
            delay, windows = chance.randrange(1, 5), ((0, 3), (5, 9), (9, 30))
            steps = []
            for again in range(chance.randrange(60)):
                word = chance.choice(("send", "call", "lose", "beat", "beat"))
                steps.append((word, chance.choice((0, 0, 0, 1, 1, 2, 3, 4, 99))))
            told, line = played(book, delay, windows, steps)
            plain, other = by_hand(book, delay, windows, steps)
            self.assertEqual(told, plain, (book, delay, windows, steps))
            self.assertEqual(all_told(line), all_told(other))
            words |= {(word, answer == "no") for (word, number), answer in zip(steps, told)}
        self.assertEqual(len(words), 8)


class TheLineBehindThem(unittest.TestCase):
    STEPS = [send(0), beat(0), send(1), beat(1), call(1), lose(0), beat(0), lose(9), beat(0), beat(0), send(0), beat(0)]

    def test_it_goes_on(self):
        told, line = played(TWO, 2, ALWAYS, self.STEPS)
        plain, other = by_hand(TWO, 2, ALWAYS, self.STEPS)
        for each in (line, other):
            each.send(1)
            each.call(0)
            each.lose(0)
        for again in range(8):
            self.assertEqual(line.beat(int(again == 3)), other.beat(int(again == 3)))
            self.assertEqual(all_told(line), all_told(other))

    def test_it_goes_on_from_each_step(self):
        whole, last = played(TWO, 2, ALWAYS, self.STEPS)
        for many in range(len(self.STEPS) + 1):
            told, line = played(TWO, 2, ALWAYS, self.STEPS[:many])
            self.assertEqual(told, whole[:many])
            for word, number in self.STEPS[many:]:
                try:
                    told.append(getattr(line, word)(number))
                except LinkError:
                    told.append("no")
            self.assertEqual((told, all_told(line)), (whole, all_told(last)))

    def test_each_play_has_a_line_of_its_own(self):
        one = played(TWO, 2, ALWAYS, self.STEPS)[1]
        before = all_told(one)
        other = played(TWO, 2, ALWAYS, self.STEPS)[1]
        other.send(0)
        other.beat(0)
        self.assertEqual(all_told(one), before)


class NoSteps(unittest.TestCase):
    def assert_refused(self, steps, number):
        handed = list(steps)
        with self.assertRaises(BadStep, msg=steps) as caught:
            played(TWO, 1, ALWAYS, handed)
        self.assertEqual(caught.exception.number, number, steps)
        self.assertEqual(handed, steps)

    def test_at_each_place(self):
        fine = [send(0), beat(0), lose(3), call(1), beat(7)]
        self.assertEqual(played(TWO, 1, ALWAYS, fine)[0], [None, [], "no", None, "no"])
        for wrong in NO_STEPS:
            for at in range(6):
                self.assert_refused([*fine[:at], wrong, *fine[at:]], at)

    def test_two_of_them(self):
        for wrong in NO_STEPS:
            for other in NO_STEPS:
                self.assert_refused([wrong, other], 0)
                self.assert_refused([beat(0), wrong, beat(0), other], 1)

    def test_400_and_401(self):
        for step, told in ((send(0), None), (call(1), None), (lose(99), "no"), (beat(99), "no")):
            self.assertEqual(played(TWO, 1, ALWAYS, [step] * 400)[0], [told] * 400)
            for more in (1, 2, 50):
                self.assert_refused([step] * (400 + more), 400)
                self.assert_refused([step] * 400 + [()] * more, 400)
                self.assert_refused([step] * 399 + [()] * (1 + more), 399)
                self.assert_refused([()] + [step] * (399 + more), 0)

    def test_400_beats(self):
        told, line = played(TWO, 1, ALWAYS, [beat(0)] * 400)
        self.assertEqual(told, [[]] + [[number] for number in range(1, 200)] + ["no"] * 200)


class WhatIsRefusedFirst(unittest.TestCase):
    def test_a_book_ahead_of_a_delay_ahead_of_windows_ahead_of_steps(self):
        for steps in ([], [()], [send(100)], [beat(0)] * 401):
            for windows in ((), ((0, 0),)):
                for delay in (1, 0, 10, True):
                    with self.assertRaises(BadBook) as caught:
                        played((LONG, (3, 2, ())), delay, windows, steps)
                    self.assertEqual(caught.exception.number, 1)
                for delay in (0, 10, True):
                    self.assertRaises(BadDelay, played, TWO, delay, windows, steps)
            self.assertRaises(BadWindows, played, TWO, 1, ((0, 0),), steps)
        self.assertRaises(BadStep, played, TWO, 1, (), [()])


class HandedInAndTold(unittest.TestCase):
    STEPS = [send(0), beat(0), send(1), beat(1), call(1), lose(0), lose(5), beat(0), beat(0)]

    def test_the_list_that_is_handed_in_stays_and_is_not_kept(self):
        handed = list(self.STEPS)
        told, line = played(TWO, 1, ALWAYS, handed)
        self.assertEqual(handed, self.STEPS)
        before = (list(told), all_told(line))
        handed[:] = [()]
        self.assertEqual((told, all_told(line)), before)

    def test_the_told_list_may_be_changed(self):
        plain, other = by_hand(TWO, 1, ALWAYS, self.STEPS)
        for again in range(2):
            told, line = played(TWO, 1, ALWAYS, self.STEPS)
            self.assertEqual(told, plain)
            for answer in told:
                if isinstance(answer, list):
                    answer[:] = ["spoilt"]
            told[:] = ["spoilt"]
            self.assertEqual(all_told(line), all_told(other))


if __name__ == "__main__":
    unittest.main()
