"""Point 10: the soonest beat by which all may be done, and the least order for it, whatever is lost."""

import itertools
import random
import unittest

from every_loss import all_done_at_worst, sturdy_by_trying
from faruplink.errors import BadBook, BadCount, BadDelay, BadWindows, TooMany
from faruplink.soonest import soonest, sturdy

LONG = (0, 200, ())
ALWAYS = ((0, 200),)


def some_book(chance, many, last):
    """A book of so many commands with untils up to this beat."""
    book = []
    for number in range(many):
        when = chance.randrange(last // 2)
        wants = tuple(want for want in range(number) if chance.random() < 0.3)
        book.append((when, chance.randrange(max(when, last // 3), last + 1), wants))
    return tuple(book)


def some_windows(chance, last):
    """Up to three windows that end by this beat."""
    edges = sorted(chance.sample(range(last + 1), 2 * chance.randrange(1, 4)))
    return tuple(zip(edges[::2], edges[1::2]))


def sends(*numbers, first=0):
    """Sends of these numbers, one a beat."""
    return list(enumerate(numbers, first))


class Interface(unittest.TestCase):
    def test_a_tuple_of_a_beat_and_a_list_of_pairs(self):
        for told in (soonest((LONG, LONG), 1, ALWAYS), sturdy((LONG, LONG), 1, ALWAYS, 0)):
            self.assertIs(told.__class__, tuple)
            self.assertEqual(told, (2, [(0, 0), (1, 1)]))
            self.assertEqual([part.__class__ for part in told], [int, list])
            self.assertEqual([pair.__class__ for pair in told[1]], [tuple, tuple])

    def test_none(self):
        self.assertIsNone(soonest((LONG,), 1, ()))
        self.assertIsNone(sturdy((LONG,), 1, (), 0))


class AgainstTryingEveryOrder(unittest.TestCase):
    def assert_same(self, book, delay, windows):
        told, as_soon = sturdy_by_trying(book, delay, windows, 0)
        self.assertEqual(soonest(book, delay, windows), told, (book, delay, windows))
        return told, as_soon

    def test_books_of_one_to_four(self):
        none = several = other = 0
        for seed in range(1500):
            chance = random.Random(seed)
            book = some_book(chance, chance.randrange(1, 5), 20)
            told, as_soon = self.assert_same(book, chance.randrange(1, 5), some_windows(chance, 14))
            none += told is None
            several += 1 < as_soon < len(list(itertools.permutations(book)))
            other += told is not None and [number for beat, number in told[1]] != list(range(len(book)))
        self.assertGreater(min(none, several, other), 50)

    def test_books_of_five_and_six(self):
        for seed in range(12):
            chance = random.Random(seed)
            book = some_book(chance, chance.choice((5, 6)), 30)
            self.assert_same(book, chance.randrange(1, 10), ((0, 2), (4, 12)))

    def test_all_small_books_of_two(self):
        for first, other in itertools.product(itertools.combinations_with_replacement(range(5), 2), repeat=2):
            for wants in ((), (0,)):
                for windows in (((0, 2),), ((1, 2), (3, 4)), ((0, 1), (1, 3))):
                    self.assert_same(((*first, ()), (*other, wants)), 1, windows)

    def test_every_delay(self):
        book = ((3, 12, ()), (0, 6, ()), (0, 12, (0, 1)))
        for delay in range(1, 10):
            for windows in (((0, 3),), ((1, 3), (4, 9)), ((2, 3), (3, 4), (5, 6))):
                self.assert_same(book, delay, windows)


class AgainstTryingEveryLoss(unittest.TestCase):
    def assert_same(self, book, delay, windows, most):
        told, as_soon = sturdy_by_trying(book, delay, windows, most)
        self.assertEqual(sturdy(book, delay, windows, most), told, (book, delay, windows, most))
        return told

    def try_some(self, sizes, most, seeds, last):
        found = []
        for seed in range(seeds):
            chance = random.Random(seed)
            book = some_book(chance, chance.choice(sizes), last)
            found.append(self.assert_same(book, chance.randrange(1, 4), some_windows(chance, last), most))
        self.assertGreater(found.count(None), seeds // 20)
        self.assertLess(found.count(None), seeds * 19 // 20)

    def test_none_lost(self):
        self.try_some((1, 2, 3, 4), 0, 300, 16)

    def test_one_lost(self):
        self.try_some((1, 2, 3, 4), 1, 300, 20)

    def test_two_lost(self):
        self.try_some((1, 2, 3), 2, 200, 24)

    def test_three_lost(self):
        self.try_some((1, 2, 3), 3, 60, 30)

    def test_a_chain_and_a_fan(self):
        chain = ((0, 9, ()), (3, 10, (0,)), (0, 11, (1,)))
        fan = ((0, 11, ()), (0, 8, ()), (4, 11, (0, 1)))
        for book in (chain, fan):
            for most in (0, 1, 2):
                for windows in (ALWAYS, ((0, 4), (5, 40)), ((0, 3), (4, 7), (8, 12))):
                    self.assert_same(book, 1, windows, most)


class Orders(unittest.TestCase):
    def test_the_least_of_several_that_are_as_soon(self):
        for many in range(1, 7):
            self.assertEqual(soonest((LONG,) * many, 1, ALWAYS), (many, sends(*range(many))))

    def test_another_one_if_it_is_sooner(self):
        self.assertEqual(soonest((LONG, (9, 9, ())), 1, ALWAYS), (9, sends(0, 1)))
        self.assertEqual(soonest(((0, 2, ()), (0, 1, ())), 1, ALWAYS), (2, sends(1, 0)))
        self.assertEqual(soonest(((0, 6, ()), (0, 1, ()), (0, 6, ())), 1, ALWAYS), (3, sends(1, 0, 2)))
        self.assertEqual(soonest(((0, 9, ()), (0, 9, ()), (0, 2, ())), 1, ALWAYS), (3, sends(0, 2, 1)))

    def test_the_least_is_that_of_numbers_not_of_whens_or_untils(self):
        book = ((5, 200, ()), (4, 200, ()), (3, 200, ()))
        self.assertEqual(soonest(book, 1, ALWAYS), (5, sends(0, 1, 2)))
        book = ((0, 200, ()), (0, 150, ()), (0, 100, ()))
        self.assertEqual(soonest(book, 1, ALWAYS), (3, sends(0, 1, 2)))

    def test_wants(self):
        self.assertEqual(soonest((LONG, (0, 200, (0,)), (0, 200, (0, 1))), 2, ALWAYS), (4, sends(0, 1, 2)))
        # What is wanted must be sent early, though it could be done later.
        self.assertEqual(soonest((LONG, LONG, (0, 2, (1,))), 1, ALWAYS), (3, sends(1, 2, 0)))
        self.assertEqual(soonest(((0, 9, ()), (0, 9, ()), (0, 9, ()), (0, 3, (2,))), 1, ALWAYS), (4, sends(0, 2, 3, 1)))

    def test_what_is_wanted_and_comes_too_late_for_it(self):
        self.assertIsNone(soonest(((5, 9, ()), (0, 4, (0,))), 1, ALWAYS))
        self.assertEqual(soonest(((5, 9, ()), (0, 5, (0,))), 1, ALWAYS), (5, sends(0, 1)))

    def test_the_last_of_six(self):
        book = tuple((0, 6 - number, ()) for number in range(6))
        self.assertEqual(soonest(book, 1, ALWAYS), (6, sends(5, 4, 3, 2, 1, 0)))
        self.assertIsNone(soonest(book, 2, ALWAYS))

    def test_copies_stand_one_behind_the_other(self):
        self.assertEqual(sturdy((LONG, LONG), 1, ALWAYS, 1), (4, sends(0, 0, 1, 1)))
        self.assertEqual(sturdy((LONG, LONG), 1, ALWAYS, 3), (8, sends(0, 0, 0, 0, 1, 1, 1, 1)))
        self.assertEqual(sturdy(((0, 6, ()), (0, 3, ())), 1, ALWAYS, 2), (6, sends(1, 1, 1, 0, 0, 0)))
        self.assertIsNone(sturdy(((0, 5, ()), (0, 3, ())), 1, ALWAYS, 2))
        self.assertIsNone(sturdy(((0, 6, ()), (0, 2, ())), 1, ALWAYS, 2))

    def test_copies_of_six(self):
        told = sturdy((LONG,) * 6, 9, ALWAYS, 3)
        self.assertEqual(told, (32, sends(*[number for number in range(6) for again in range(4)])))

    def test_the_beat_is_the_worst_one(self):
        for most in range(4):
            book = ((2, 200, ()), (0, 200, (0,)))
            told = sturdy(book, 1, ALWAYS, most)
            self.assertEqual(told[0], 2 * (most + 1))
            self.assertEqual(all_done_at_worst(book, 1, told[1], most), told[0])

    def test_sturdy_with_none_lost_is_soonest(self):
        for seed in range(400):
            chance = random.Random(seed)
            book = some_book(chance, chance.randrange(1, 7), 24)
            delay, windows = chance.randrange(1, 10), some_windows(chance, 20)
            self.assertEqual(sturdy(book, delay, windows, 0), soonest(book, delay, windows))


class Windows(unittest.TestCase):
    def test_none(self):
        for many in range(1, 7):
            self.assertIsNone(soonest((LONG,) * many, 1, ()))
            for most in range(4):
                self.assertIsNone(sturdy((LONG,) * many, 1, (), most))

    def test_apart_from_one_another(self):
        told = soonest((LONG, LONG, LONG, LONG), 1, ((0, 2), (5, 6), (9, 20)))
        self.assertEqual(told, (10, [(0, 0), (1, 1), (5, 2), (9, 3)]))
        told = sturdy((LONG, LONG), 2, ((0, 1), (3, 4), (7, 8), (10, 11)), 1)
        self.assertEqual(told, (12, [(0, 0), (3, 0), (7, 1), (10, 1)]))

    def test_end_to_end(self):
        told = soonest((LONG, LONG, LONG), 1, ((0, 1), (1, 2), (2, 3)))
        self.assertEqual(told, (3, sends(0, 1, 2)))

    def test_one_that_begins_late(self):
        self.assertEqual(soonest((LONG, LONG), 3, ((100, 150),)), (104, sends(0, 1, first=100)))
        self.assertIsNone(soonest(((0, 102, ()), LONG), 3, ((100, 150),)))
        self.assertEqual(soonest(((0, 104, ()), (0, 103, ())), 3, ((100, 150),)), (104, sends(1, 0, first=100)))

    def test_a_beat_is_not_left_out_to_wait_for_a_moment(self):
        self.assertEqual(soonest(((50, 60, ()), (40, 60, ())), 1, ALWAYS), (50, sends(0, 1)))

    def test_as_few_beats_as_need_be_and_one_less(self):
        for many in range(1, 7):
            for most in range(4):
                need = many * (most + 1)
                book = (LONG,) * many
                told = sturdy(book, 1, ((3, 3 + need),), most)
                self.assertEqual((told[0], len(told[1])), (3 + need, need))
                self.assertEqual([beat for beat, number in told[1]], list(range(3, 3 + need)))
                single = tuple((2 * beat, 2 * beat + 1) for beat in range(need))
                self.assertEqual(sturdy(book, 1, single, most)[0], 2 * need - 1)
                self.assertIsNone(sturdy(book, 1, single[1:], most))
                if need > 1:
                    self.assertIsNone(sturdy(book, 1, ((3, 2 + need),), most))
            self.assertEqual(soonest(book, 1, ((3, 3 + many),)), (3 + many, sends(*range(many), first=3)))

    def test_a_beat_more_changes_nothing(self):
        for most in range(4):
            told = sturdy((LONG, LONG), 1, ((0, 2 * most + 2),), most)
            self.assertEqual(sturdy((LONG, LONG), 1, ((0, 2 * most + 3),), most), told)


class Beats(unittest.TestCase):
    def test_untils_that_are_too_early(self):
        for delay in range(1, 10):
            self.assertEqual(soonest(((0, delay, ()),), delay, ALWAYS), (delay, [(0, 0)]))
            self.assertIsNone(soonest(((0, delay - 1, ()),), delay, ALWAYS))

    def test_whens(self):
        for when in (0, 1, 2, 5, 200):
            self.assertEqual(soonest(((when, 200, ()),), 2, ALWAYS), (max(when, 2), [(0, 0)]))

    def test_up_to_beat_200(self):
        for delay in range(1, 10):
            self.assertEqual(soonest((LONG,), delay, ((200 - delay, 200),)), (200, [(200 - delay, 0)]))
            self.assertIsNone(soonest((LONG, LONG), delay, ((200 - delay, 200),)))
            if delay > 1:
                self.assertIsNone(soonest((LONG,), delay, ((201 - delay, 200),)))

    def test_the_last_window(self):
        self.assertEqual(soonest((LONG,), 1, ((199, 200),)), (200, [(199, 0)]))
        self.assertIsNone(soonest((LONG,), 2, ((199, 200),)))
        self.assertEqual(soonest(((200, 200, ()),), 9, ALWAYS), (200, [(0, 0)]))

    def test_the_last_letters_near_beat_200(self):
        self.assertEqual(sturdy((LONG,), 1, ((196, 200),), 3), (200, sends(0, 0, 0, 0, first=196)))
        self.assertIsNone(sturdy((LONG,), 2, ((196, 200),), 3))
        self.assertEqual(sturdy((LONG,), 2, ((196, 200),), 2), (200, sends(0, 0, 0, first=196)))
        self.assertIsNone(sturdy((LONG,), 1, ((197, 200),), 3))

    def test_near_beat_200_against_trying(self):
        for begin in range(188, 200):
            for delay in (1, 2, 5, 9):
                for book in ((LONG,), (LONG, (200, 200, ())), ((0, 199, ()), (0, 198, ()))):
                    for most in (0, 1):
                        told, as_soon = sturdy_by_trying(book, delay, ((begin, 200),), most)
                        self.assertEqual(sturdy(book, delay, ((begin, 200),), most), told)


class Refused(unittest.TestCase):
    SEVEN = (LONG,) * 7
    NO_COUNTS = (-1, 4, 5, -4, 99, True, False)

    def test_books_of_seven_and_eight(self):
        for book in (self.SEVEN, (LONG,) * 8, tuple((5, 5, ()) for number in range(7))):
            for windows in (ALWAYS, (), ((0, 1),)):
                self.assertRaises(TooMany, soonest, book, 1, windows)
                for most in range(4):
                    self.assertRaises(TooMany, sturdy, book, 1, windows, most)

    def test_a_book_of_six(self):
        self.assertEqual(soonest((LONG,) * 6, 1, ALWAYS), (6, sends(*range(6))))
        self.assertEqual(sturdy((LONG,) * 6, 1, ALWAYS, 1)[0], 12)

    def test_counts(self):
        for book in ((LONG,), (LONG,) * 6, self.SEVEN):
            for windows in (ALWAYS, ()):
                for most in self.NO_COUNTS:
                    self.assertRaises(BadCount, sturdy, book, 1, windows, most)

    def test_counts_from_0_to_3_are_taken(self):
        for most in range(4):
            self.assertEqual(sturdy((LONG,), 1, ALWAYS, most), (most + 1, sends(*[0] * (most + 1))))

    def test_a_wrong_book_of_seven_and_one_of_nine(self):
        for number in range(7):
            book = self.SEVEN[:number] + ((3, 2, ()),) + self.SEVEN[number + 1:]
            for tried in ((soonest, book, 0, 0), (sturdy, book, 0, 0, 9), (soonest, book, 1, ALWAYS)):
                with self.assertRaises(BadBook) as caught:
                    tried[0](*tried[1:])
                self.assertEqual(caught.exception.number, number)
        with self.assertRaises(BadBook) as caught:
            soonest((LONG,) * 9, 1, ALWAYS)
        self.assertEqual(caught.exception.number, 8)

    def test_a_wrong_delay_ahead_of_windows_and_counts_and_seven(self):
        for book in ((LONG,), self.SEVEN):
            for delay in (0, 10, -1, True):
                for windows in (ALWAYS, ((0, 0),)):
                    self.assertRaises(BadDelay, soonest, book, delay, windows)
                    for most in (0, 4, -1):
                        self.assertRaises(BadDelay, sturdy, book, delay, windows, most)

    def test_wrong_windows_ahead_of_counts_and_seven(self):
        for book in ((LONG,), self.SEVEN):
            for windows in (((0, 0),), ((0, 201),), ((0, 5), (4, 9)), ((-1, 5),), (5,), ((True, 5),)):
                self.assertRaises(BadWindows, soonest, book, 1, windows)
                for most in (0, 3, *self.NO_COUNTS):
                    self.assertRaises(BadWindows, sturdy, book, 1, windows, most)


if __name__ == "__main__":
    unittest.main()
