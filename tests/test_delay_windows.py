"""Point 2: which delays and windows are taken, which are refused, and what is refused first."""

import unittest

from faruplink.doubt import Ground
from faruplink.errors import BadBook, BadDelay, BadLetters, BadWindows
from faruplink.judging import judged
from faruplink.line import Line

BOOK = ((0, 200, ()),)
NO_BOOKS = ((), 0, ((3, 2, ()),), BOOK * 9)
NO_DELAYS = (0, 10, 11, -1, -2, -9, -10, 100, 201, True, False)
NO_WINDOWS = (
    0, 5, -1, [], [(0, 5)],
    (0,), (0, 5), (5, 3), (0, 5, 9), ((),), ((0,),), ((0, 5, 9),), (((0, 5),),), ([0, 5],), ((0, 5), 9), ((0, 5), ()),
    ((0, 0),), ((5, 5),), ((199, 199),), ((200, 200),),
    ((1, 0),), ((5, 4),), ((200, 0),), ((200, 199),),
    ((-1, 0),), ((-1, 5),), ((-200, 200),), ((-2, -1),),
    ((0, 201),), ((199, 201),), ((200, 201),), ((201, 202),), ((201, 300),),
    ((0, 5), (4, 9)), ((0, 5), (0, 5)), ((0, 5), (1, 4)), ((3, 5), (2, 6)), ((5, 9), (0, 5)), ((5, 9), (0, 2)),
    ((0, 2), (4, 6), (5, 8)), ((0, 2), (4, 6), (1, 3)), ((0, 2), (4, 6), (6, 6)), ((0, 2), (4, 6), (8, 7)),
    ((0, 5), (5, 5), (5, 9)), ((0, 5), (3, 3), (5, 9)), ((0, 200), (200, 201)), ((0, 5), (7, 201)),
    ((0, 2), (1, 3), (4, 6)), ((-1, 2), (4, 6)), ((3, 3), (4, 6)),
    ((False, 5),), ((0, True),), (((), 5),), ((0, ()),),
)


class Delays(unittest.TestCase):
    def test_1_to_9_are_taken(self):
        for delay in range(1, 10):
            with self.subTest(delay=delay):
                self.assertEqual(Ground(BOOK, delay).now(), 0)
                self.assertEqual(Line(BOOK, delay, ()).now(), 0)
                self.assertIsNone(judged(BOOK, delay, (), []))

    def test_others_are_refused(self):
        for delay in NO_DELAYS:
            with self.subTest(delay=delay):
                self.assertRaises(BadDelay, Ground, BOOK, delay)
                self.assertRaises(BadDelay, Line, BOOK, delay, ())
                self.assertRaises(BadDelay, judged, BOOK, delay, (), [])


class Windows(unittest.TestCase):
    def assert_open(self, windows, beats):
        """A line with these windows takes a send at these beats, and at no others."""
        line = Line(BOOK, 1, windows)
        told = []
        for beat in range(201):
            before = line.waits()[0]
            try:
                line.send(0)
                told.append(beat)
            except ValueError:
                self.assertEqual(line.waits()[0], before)
            if beat < 200:
                line.beat(1)
        self.assertEqual(told, list(beats))
        self.assertIsNone(judged(BOOK, 1, windows, [("beat",)] * 3))

    def test_none(self):
        self.assert_open((), [])

    def test_one(self):
        self.assert_open(((3, 6),), [3, 4, 5])

    def test_one_of_a_single_beat(self):
        self.assert_open(((3, 4),), [3])

    def test_several(self):
        self.assert_open(((0, 2), (4, 6), (9, 10)), [0, 1, 4, 5, 9])

    def test_end_to_end(self):
        self.assert_open(((0, 2), (2, 4), (4, 5)), [0, 1, 2, 3, 4])

    def test_0_and_200(self):
        self.assert_open(((0, 200),), range(200))
        self.assert_open(((0, 1),), [0])
        self.assert_open(((199, 200),), [199])
        self.assert_open(((0, 1), (199, 200)), [0, 199])

    def test_as_many_as_there_can_be(self):
        self.assert_open(tuple((beat, beat + 1) for beat in range(200)), range(200))

    def test_others_are_refused(self):
        for windows in NO_WINDOWS:
            with self.subTest(windows=windows):
                self.assertRaises(BadWindows, Line, BOOK, 1, windows)
                self.assertRaises(BadWindows, judged, BOOK, 1, windows, [])


class WhatIsRefusedFirst(unittest.TestCase):
    def test_a_book_ahead_of_a_delay_ahead_of_windows_ahead_of_a_log(self):
        for book in NO_BOOKS:
            for delay in (1, *NO_DELAYS):
                self.assertRaises(BadBook, Ground, book, delay)
                for windows in ((), *NO_WINDOWS):
                    self.assertRaises(BadBook, Line, book, delay, windows)
                    self.assertRaises(BadBook, judged, book, delay, windows, [()])
        for delay in NO_DELAYS:
            for windows in ((), *NO_WINDOWS):
                self.assertRaises(BadDelay, Line, BOOK, delay, windows)
                self.assertRaises(BadDelay, judged, BOOK, delay, windows, [()])
        for windows in NO_WINDOWS:
            self.assertRaises(BadWindows, judged, BOOK, 1, windows, [()])
        self.assertRaises(BadLetters, judged, BOOK, 1, (), [()])

    def test_a_wrong_book_tells_its_number(self):
        for made, *others in ((Ground, 0), (Line, 0, 0), (judged, 0, 0, [()])):
            for book, number in (((), 0), ((*BOOK, (3, 2, ())), 1), (BOOK * 9, 8)):
                with self.assertRaises(BadBook) as caught:
                    made(book, *others)
                self.assertEqual(caught.exception.number, number)


if __name__ == "__main__":
    unittest.main()
