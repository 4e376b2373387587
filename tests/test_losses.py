"""Point 11: which letters' loss would keep some command from being done."""

import itertools
import random
import unittest

from every_loss import all_done, lists_of_lost, weak_by_trying, without
from faruplink.errors import BadBook, BadCount, BadDelay, BadLetters, TooMany
from faruplink.losses import weak

LONG = (0, 200, ())
TWO = (LONG, LONG)


def sends(*numbers, first=0):
    """Sends of these numbers, one a beat."""
    return list(enumerate(numbers, first))


def some_book(chance):
    """A book of up to three commands that leaves room for letters that come late."""
    book = []
    for number in range(chance.randrange(1, 4)):
        when = chance.randrange(8)
        wants = tuple(want for want in range(number) if chance.random() < 0.4)
        book.append((when, chance.randrange(when + 4, when + 20), wants))
    return tuple(book)


def some_sends(chance, many):
    """Up to nine sends; each command is sent at least once for the most part."""
    length = chance.randrange(10)
    beats = sorted(chance.sample(range(14), length))
    numbers = [at % many for at in range(length)]
    chance.shuffle(numbers)
    return list(zip(beats, numbers))


class Interface(unittest.TestCase):
    def test_a_list_of_numbers_or_none(self):
        told = weak(TWO, 1, sends(0, 1), 1)
        self.assertIs(told.__class__, list)
        self.assertEqual([number.__class__ for number in told], [int])
        self.assertIs(weak(TWO, 1, [], 0).__class__, list)
        self.assertIsNone(weak(TWO, 1, sends(0, 1), 0))


class AgainstTryingEveryLoss(unittest.TestCase):
    def test_some_books_and_sends(self):
        lengths = []
        for seed in range(700):
            chance = random.Random(seed)
            book = some_book(chance)
            delay, made = chance.randrange(1, 6), some_sends(chance, len(book))
            for most in range(4):
                told = weak(book, delay, made, most)
                self.assertEqual(told, weak_by_trying(book, delay, made, most), (book, delay, made, most))
                lengths.append(None if told is None else len(told))
        for length in (None, 0, 1, 2, 3):
            self.assertGreater(lengths.count(length), 20, length)

    def test_twelve_sends_of_eight_and_of_four(self):
        for seed in range(6):
            chance = random.Random(seed)
            for many in (8, 4, 3):
                book = tuple((0, chance.randrange(18, 60), tuple(range(number)[-2:])) for number in range(many))
                numbers = [at % many for at in range(12)]
                chance.shuffle(numbers)
                made = list(zip(sorted(chance.sample(range(40), 12)), numbers))
                for most in range(4):
                    self.assertEqual(weak(book, 2, made, most), weak_by_trying(book, 2, made, most))

    def test_all_sends_of_two_at_three_beats(self):
        book = ((1, 3, ()), (0, 4, (0,)))
        for numbers in itertools.product((None, 0, 1), repeat=4):
            made = [(beat, number) for beat, number in enumerate(numbers) if number is not None]
            for most in range(4):
                self.assertEqual(weak(book, 1, made, most), weak_by_trying(book, 1, made, most))

    def test_what_is_told_is_enough_and_nothing_less_is(self):
        book = (LONG, (0, 9, (0,)), (5, 12, (1,)))
        made = [(0, 0), (1, 1), (2, 2), (3, 0), (4, 1), (6, 2), (7, 1), (9, 0), (10, 2)]
        told = weak(book, 1, made, 3)
        self.assertIsNone(all_done(book, 1, without(made, told)))
        for lost in lists_of_lost(len(made), len(told) - 1):
            self.assertIsNotNone(all_done(book, 1, without(made, lost)))


class Fewest(unittest.TestCase):
    def test_none_lost_needed(self):
        for most in range(4):
            # Never sent; sent too late; what it wants is not done; heard behind beat 200.
            self.assertEqual(weak((LONG,), 1, [], most), [])
            self.assertEqual(weak(TWO, 1, sends(0, 0, 0), most), [])
            self.assertEqual(weak(((0, 4, ()),), 1, [(4, 0), (5, 0)], most), [])
            self.assertEqual(weak(((5, 9, ()), (0, 4, (0,))), 1, sends(0, 1), most), [])
            self.assertEqual(weak((LONG,), 2, [(199, 0)], most), [])

    def test_each_sent_once(self):
        self.assertIsNone(weak(TWO, 1, sends(1, 0), 0))
        for most in (1, 2, 3):
            self.assertEqual(weak(TWO, 1, sends(1, 0), most), [0])

    def test_as_many_as_a_command_is_sent(self):
        for many in (1, 2, 3):
            for most in range(4):
                told = list(range(many)) if many <= most else None
                self.assertEqual(weak((LONG,), 1, sends(*[0] * many), most), told)
        for many in range(4, 13):
            self.assertIsNone(weak((LONG,), 1, sends(*[0] * many), 3))

    def test_the_fewest_not_the_least(self):
        self.assertEqual(weak(TWO, 1, sends(0, 0, 1), 3), [2])
        self.assertEqual(weak(TWO, 1, sends(0, 0, 0, 1, 1), 3), [3, 4])
        self.assertEqual(weak(TWO, 1, sends(0, 0, 0, 1, 1), 1), None)

    def test_the_least_of_as_few(self):
        self.assertEqual(weak((LONG,) * 3, 1, sends(0, 1, 2, 0), 1), [1])
        self.assertEqual(weak(TWO, 1, sends(1, 0, 0, 1), 2), [0, 3])
        self.assertEqual(weak(TWO, 1, sends(0, 1, 0, 1), 2), [0, 2])
        self.assertEqual(weak(TWO, 1, sends(0, 1, 1, 1, 0, 0), 3), [0, 4, 5])

    def test_least_by_sends_not_by_commands(self):
        self.assertEqual(weak((LONG,) * 3, 1, sends(2, 1, 0), 3), [0])

    def test_told_again_too_late(self):
        self.assertEqual(weak(((0, 4, ()),), 1, [(0, 0), (3, 0), (4, 0), (9, 0)], 2), [0, 1])
        self.assertIsNone(weak(((0, 4, ()),), 1, [(0, 0), (3, 0), (4, 0), (9, 0)], 1))
        self.assertEqual(weak(((0, 5, ()),), 1, [(0, 0), (3, 0), (4, 0), (9, 0)], 3), [0, 1, 2])

    def test_the_last_beat_at_which_it_may_come(self):
        for delay in range(1, 10):
            self.assertIsNone(weak(((0, 20, ()),), delay, [(20 - delay, 0)], 0))
            self.assertEqual(weak(((0, 19, ()),), delay, [(20 - delay, 0)], 0), [])

    def test_what_is_wanted_comes_too_late_if_one_is_lost(self):
        book = (LONG, (0, 5, (0,)))
        self.assertEqual(weak(book, 1, [(0, 0), (1, 1), (2, 1), (5, 0)], 3), [0])
        self.assertEqual(weak(book, 1, [(0, 0), (1, 1), (2, 1), (4, 0)], 3), [0, 3])

    def test_near_beat_200(self):
        self.assertEqual(weak((LONG,), 1, [(198, 0), (199, 0)], 3), [0, 1])
        self.assertEqual(weak((LONG,), 2, [(198, 0), (199, 0)], 3), [0])
        self.assertEqual(weak((LONG,), 3, [(198, 0), (199, 0)], 3), [])
        self.assertEqual(weak(((200, 200, ()),), 9, [(0, 0), (191, 0), (192, 0)], 3), [0, 1])


class Sends(unittest.TestCase):
    def assert_refused(self, made, at, book=TWO, most=3):
        handed = list(made)
        with self.assertRaises(BadLetters, msg=made) as caught:
            weak(book, 1, handed, most)
        self.assertEqual(caught.exception.at, at, made)
        self.assertEqual(handed, made)

    NO_SENDS = (
        (), (0,), (15,), (15, 0, 0), (15, 0, ()), [15, 0], 15, 0, "send", ("send", 0), ("cmd", 0), ((15, 0),),
        (15, 2), (15, 8), (15, -1), (15, "0"), (15, ()), (15, True), (15, False), (15, None),
        (-1, 0), (200, 0), (201, 0), (1000, 0), ("15", 0), (True, 0), (False, 0), ((), 0), (15, 200),
    )

    def test_what_is_no_send_at_each_place(self):
        fine = [(4, 0), (9, 1), (14, 1), (16, 0), (30, 1)]
        self.assertEqual(weak(TWO, 1, fine, 3), [0, 3])
        for wrong in self.NO_SENDS:
            for at in range(6):
                self.assert_refused([*fine[:at], wrong, *fine[at:]], at)

    def test_two_of_them(self):
        for wrong in self.NO_SENDS:
            for other in self.NO_SENDS:
                self.assert_refused([wrong, other], 0)
                self.assert_refused([(3, 1), wrong, (20, 0), other], 1)

    def test_beats_0_and_199(self):
        self.assertEqual(weak(TWO, 1, [(0, 0), (199, 1)], 1), [0])
        self.assertEqual(weak(TWO, 1, [(0, 0), (199, 1)], 0), None)
        self.assert_refused([(0, 0), (200, 1)], 1)
        self.assert_refused([(-1, 0), (199, 1)], 0)

    def test_the_same_beat_twice(self):
        self.assert_refused([(0, 0), (0, 1)], 1)
        self.assert_refused([(3, 0), (3, 0)], 1)
        self.assert_refused([(3, 0), (5, 1), (5, 0), (6, 1)], 2)
        self.assert_refused([(199, 0), (199, 1)], 1)

    def test_falling_beats(self):
        self.assert_refused([(5, 0), (4, 1)], 1)
        self.assert_refused([(5, 0), (7, 1), (6, 0)], 2)
        self.assert_refused([(5, 0), (0, 1), (6, 0)], 1)
        self.assert_refused([(3, 0), (5, 1), (4, 0), (200, 0)], 2)

    def test_one_behind_the_other(self):
        self.assertEqual(weak(TWO, 1, [(7, 0), (8, 1), (9, 0)], 1), [1])

    def test_numbers_by_the_size_of_the_book(self):
        for many in range(1, 9):
            book = (LONG,) * many
            self.assertIsNone(weak(book, 1, sends(*range(many)), 0))
            self.assert_refused(sends(*range(many), many), many, book)
            self.assert_refused([(0, 0), (1, -1)], 1, book)

    def test_twelve_and_thirteen(self):
        self.assertIsNone(weak(TWO, 1, sends(*[0, 1] * 6), 3))
        self.assertEqual(weak(TWO, 1, sends(*[0] * 10, 1, 1), 3), [10, 11])
        self.assertEqual(weak(TWO, 1, sends(*[0] * 11, 1), 3), [11])
        self.assertEqual(weak(TWO, 1, sends(*[0] * 12), 3), [])
        for many in (13, 14, 50, 200):
            for most in range(4):
                self.assertRaises(TooMany, weak, TWO, 1, sends(*[0] * many), most)
                self.assertRaises(TooMany, weak, TWO, 1, sends(*[0] * (many - 1), 1), most)


class Counts(unittest.TestCase):
    NO_COUNTS = (-1, 4, 5, -3, 12, 99, True, False)

    def test_others_are_refused(self):
        for most in self.NO_COUNTS:
            for made in ([], sends(0, 1), sends(*[0] * 12)):
                self.assertRaises(BadCount, weak, TWO, 1, made, most)

    def test_0_to_3(self):
        made = sends(0, 0, 0)
        self.assertEqual([weak((LONG,), 1, made, most) for most in range(4)], [None, None, None, [0, 1, 2]])

    def test_more_than_there_are_sends(self):
        for most in (1, 2, 3):
            self.assertEqual(weak((LONG,), 1, sends(0), most), [0])


class WhatIsRefusedFirst(unittest.TestCase):
    NO_BOOK = (LONG, (3, 2, ()))
    THIRTEEN = sends(*[0] * 13)

    def test_a_book_ahead_of_all(self):
        for delay in (1, 0):
            for made in ([], [(0, 9)], self.THIRTEEN):
                for most in (3, 4):
                    with self.assertRaises(BadBook) as caught:
                        weak(self.NO_BOOK, delay, made, most)
                    self.assertEqual(caught.exception.number, 1)

    def test_a_delay_ahead_of_sends(self):
        for delay in (0, 10, -1, True):
            for made in ([], [(0, 9)], self.THIRTEEN):
                for most in (3, 4):
                    self.assertRaises(BadDelay, weak, TWO, delay, made, most)

    def test_sends_ahead_of_a_count(self):
        for most in (0, *Counts.NO_COUNTS):
            self.assertRaises(BadLetters, weak, TWO, 1, [(0, 2)], most)

    def test_sends_that_can_not_be_among_thirteen(self):
        for at in range(13):
            made = list(self.THIRTEEN)
            made[at] = (at, 2)
            for most in (3, 4):
                with self.assertRaises(BadLetters) as caught:
                    weak(TWO, 1, made, most)
                self.assertEqual(caught.exception.at, at)
        with self.assertRaises(BadLetters) as caught:
            weak(TWO, 1, sends(*[0] * 20) + [()], 3)
        self.assertEqual(caught.exception.at, 20)

    def test_a_count_ahead_of_thirteen(self):
        for most in Counts.NO_COUNTS:
            self.assertRaises(BadCount, weak, TWO, 1, self.THIRTEEN, most)
        self.assertRaises(TooMany, weak, TWO, 1, self.THIRTEEN, 3)

    def test_sends_up_to_beat_199_and_one_more(self):
        made = sends(*[0] * 200)
        self.assertRaises(TooMany, weak, TWO, 1, made, 3)
        with self.assertRaises(BadLetters) as caught:
            weak(TWO, 1, [*made, (200, 0)], 3)
        self.assertEqual(caught.exception.at, 200)


class TheListThatIsHandedIn(unittest.TestCase):
    def test_it_stays(self):
        for made in ([], sends(0, 1, 0), sends(*[0, 1] * 6)):
            handed = list(made)
            for most in range(4):
                told = weak(TWO, 1, handed, most)
                self.assertEqual(handed, made)
                self.assertEqual(weak(TWO, 1, handed, most), told)

    def test_it_stays_when_it_is_refused(self):
        for error, made, most in ((BadCount, sends(0, 1), 4), (TooMany, sends(*[0] * 13), 3)):
            handed = list(made)
            self.assertRaises(error, weak, TWO, 1, handed, most)
            self.assertEqual(handed, made)

    def test_what_is_told_may_be_changed(self):
        for made, least in (([], []), (sends(0, 1), [0])):
            for again in range(2):
                told = weak(TWO, 1, made, 3)
                self.assertEqual(told, least)
                told[:] = ["spoilt"]


if __name__ == "__main__":
    unittest.main()
