"""Point 2: which delays and windows are taken, which are refused, and what is refused first."""

import unittest

from faruplink.doubt import Ground
from faruplink.errors import BadBook, BadCount, BadDelay, BadLetters, BadStep, BadWindows
from faruplink.judging import judged
from faruplink.line import Line
from faruplink.losses import weak
from faruplink.plays import played
from faruplink.soonest import soonest, sturdy

BOOK = ((0, 200, ()),)
NO_BOOKS = ((), 0, ((3, 2, ()),), BOOK * 9)
NO_DELAYS = (0, 10, 11, -1, -2, -9, -10, 100, 201, True, False)
NO_WINDOWS = (
    0, 5, -1, [], [(0, 5)],
    (0,), (0, 5), (5, 3), (0, 5, 9), ((),), ((0,),), ((0, 5, 9),), (((0, 5),),), ([0, 5],), ((0, 5), 9), ((0, 5), ()),
    ((0, 0),), ((5, 5),), ((199, 199),), ((200, 200),),
    ((1, 0),), ((5, 4),), ((200, 0),), ((200, 199),),
    ((-1, 0),), ((-1, 5),), ((-200, 200),), ((-2, -1),),
    ((0, 201),), ((199, 201),), ((200, 201),), ((201, 202),), ((201, 300),),
    ((0, 5), (4, 9)), ((0, 5), (0, 5)), ((0, 5), (1, 4)), ((3, 5), (2, 6)), ((5, 9), (0, 5)), ((5, 9), (0, 2)),
    ((0, 2), (4, 6), (5, 8)), ((0, 2), (4, 6), (1, 3)), ((0, 2), (4, 6), (6, 6)), ((0, 2), (4, 6), (8, 7)),
    ((0, 5), (5, 5), (5, 9)), ((0, 5), (3, 3), (5, 9)), ((0, 200), (200, 201)), ((0, 5), (7, 201)),
    ((0, 2), (1, 3), (4, 6)), ((-1, 2), (4, 6)), ((3, 3), (4, 6)),
    ((False, 5),), ((0, True),), (((), 5),), ((0, ()),),
)


class Delays(unittest.TestCase):
    def test_1_to_9_are_taken(self):
        for delay in range(1, 10):
            with self.subTest(delay=delay):
                self.assertEqual(Ground(BOOK, delay).now(), 0)
                self.assertEqual(Line(BOOK, delay, ()).now(), 0)
                self.assertIsNone(judged(BOOK, delay, (), []))
                self.assertEqual(soonest(BOOK, delay, ((0, 1),)), (delay, [(0, 0)]))
                self.assertEqual(sturdy(BOOK, delay, ((0, 2),), 1), (delay + 1, [(0, 0), (1, 0)]))
                self.assertEqual(weak(BOOK, delay, [(0, 0)], 1), [0])
                self.assertEqual(played(BOOK, delay, (), [])[0], [])

    def test_others_are_refused(self):
        for delay in NO_DELAYS:
            with self.subTest(delay=delay):
                self.assertRaises(BadDelay, Ground, BOOK, delay)
                self.assertRaises(BadDelay, Line, BOOK, delay, ())
                self.assertRaises(BadDelay, judged, BOOK, delay, (), [])
                self.assertRaises(BadDelay, soonest, BOOK, delay, ())
                self.assertRaises(BadDelay, sturdy, BOOK, delay, (), 0)
                self.assertRaises(BadDelay, weak, BOOK, delay, [], 0)
                self.assertRaises(BadDelay, played, BOOK, delay, (), [])


class Windows(unittest.TestCase):
    def assert_open(self, windows, beats):
        """A line with these windows takes a send at these beats, and at no others."""
        line = Line(BOOK, 1, windows)
        told = []
        for beat in range(201):
            before = line.waits()[0]
            try:
                line.send(0)
                told.append(beat)
            except ValueError:
                self.assertEqual(line.waits()[0], before)
            if beat < 200:
                line.beat(1)
        self.assertEqual(told, list(beats))
        self.assertIsNone(judged(BOOK, 1, windows, [("beat",)] * 3))
        steps = [step for beat in range(200) for step in (("send", 0), ("beat", 1))]
        answers = played(BOOK, 1, windows, steps)[0][::2]
        self.assertEqual([beat for beat in range(200) if answers[beat] is None], list(beats))
        plan = [(beat, 0) for beat in list(beats)[:4]]
        self.assertEqual(soonest(BOOK, 1, windows), (plan[0][0] + 1, plan[:1]) if plan else None)
        self.assertEqual(sturdy(BOOK, 1, windows, 3), (plan[3][0] + 1, plan) if len(plan) == 4 else None)

    def test_none(self):
        self.assert_open((), [])

    def test_one(self):
        self.assert_open(((3, 6),), [3, 4, 5])

    def test_one_of_a_single_beat(self):
        self.assert_open(((3, 4),), [3])

    def test_several(self):
        self.assert_open(((0, 2), (4, 6), (9, 10)), [0, 1, 4, 5, 9])

    def test_end_to_end(self):
        self.assert_open(((0, 2), (2, 4), (4, 5)), [0, 1, 2, 3, 4])

    def test_0_and_200(self):
        self.assert_open(((0, 200),), range(200))
        self.assert_open(((0, 1),), [0])
        self.assert_open(((199, 200),), [199])
        self.assert_open(((0, 1), (199, 200)), [0, 199])

    def test_as_many_as_there_can_be(self):
        self.assert_open(tuple((beat, beat + 1) for beat in range(200)), range(200))

    def test_others_are_refused(self):
        for windows in NO_WINDOWS:
            with self.subTest(windows=windows):
                self.assertRaises(BadWindows, Line, BOOK, 1, windows)
                self.assertRaises(BadWindows, judged, BOOK, 1, windows, [])
                self.assertRaises(BadWindows, soonest, BOOK, 1, windows)
                self.assertRaises(BadWindows, sturdy, BOOK, 1, windows, 0)
                self.assertRaises(BadWindows, played, BOOK, 1, windows, [])


class WhatIsRefusedFirst(unittest.TestCase):
    """With what comes behind the windows wrong as well."""

    WITH_WINDOWS = ((Line,), (soonest,), (sturdy, 4), (judged, [()]), (played, [()]))

    def test_a_book_ahead_of_a_delay(self):
        for book in NO_BOOKS:
            for delay in (1, *NO_DELAYS):
                self.assertRaises(BadBook, Ground, book, delay)
                self.assertRaises(BadBook, weak, book, delay, [()], 4)
                for windows in ((), *NO_WINDOWS):
                    for taker, *others in self.WITH_WINDOWS:
                        self.assertRaises(BadBook, taker, book, delay, windows, *others)

    def test_a_delay_ahead_of_windows(self):
        for delay in NO_DELAYS:
            self.assertRaises(BadDelay, weak, BOOK, delay, [()], 4)
            for windows in ((), *NO_WINDOWS):
                for taker, *others in self.WITH_WINDOWS:
                    self.assertRaises(BadDelay, taker, BOOK, delay, windows, *others)

    def test_windows_ahead_of_what_is_handed_in_behind_them(self):
        for windows in NO_WINDOWS:
            for taker, *others in self.WITH_WINDOWS:
                self.assertRaises(BadWindows, taker, BOOK, 1, windows, *others)
        self.assertRaises(BadLetters, judged, BOOK, 1, (), [()])
        self.assertRaises(BadStep, played, BOOK, 1, (), [()])
        self.assertRaises(BadCount, sturdy, BOOK, 1, (), 4)
        self.assertRaises(BadLetters, weak, BOOK, 1, [()], 4)


if __name__ == "__main__":
    unittest.main()
