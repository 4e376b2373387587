"""Point 2: which books are taken, and which are refused with which number."""

import unittest

from faruplink.craft import Craft
from faruplink.doubt import Ground
from faruplink.errors import BadBook
from faruplink.judging import judged
from faruplink.line import Line
from faruplink.losses import weak
from faruplink.plays import played
from faruplink.soonest import soonest, sturdy

FINE = (3, 7, ())
EIGHT = (FINE,) * 8
# All that is handed a book, with what else it is handed; what else can't be is refused behind the book.
TAKERS = (
    (Craft,), (Ground, 1), (Line, 1, ()), (judged, 1, (), []),
    (soonest, 1, ()), (sturdy, 1, (), 0), (weak, 1, [], 0), (played, 1, (), []),
)
TAKERS_OF_WRONG_ONES = (
    (Ground, 0), (Line, 0, 0), (judged, 0, 0, [()]),
    (soonest, 0, 0), (sturdy, 0, 0, 4), (weak, 0, [()], 4), (played, 0, 0, [()]),
)
# These plan for six commands at the most.
PLANNERS = (soonest, sturdy)


def book_with(number, command):
    """A book of eight in which all but this command are fine."""
    return EIGHT[:number] + (command,) + EIGHT[number + 1:]


class BooksTaken(unittest.TestCase):
    def assert_taken(self, book):
        self.assertEqual(Craft(book).beat([]), ("none",) * len(book))
        for taker, *others in TAKERS:
            if len(book) <= 6 or taker not in PLANNERS:
                taker(book, *others)

    def test_of_one_to_eight_commands(self):
        for many in range(1, 9):
            with self.subTest(many=many):
                self.assert_taken(EIGHT[:many])

    def test_beats_at_their_edges(self):
        for when, until in ((0, 0), (0, 1), (0, 200), (199, 200), (200, 200)):
            with self.subTest(when=when, until=until):
                self.assert_taken(((when, until, ()),))

    def test_until_equal_to_when(self):
        for beat in range(201):
            self.assert_taken(((beat, beat, ()),))

    def test_wants_empty_and_full(self):
        self.assert_taken(tuple((0, 200, tuple(range(number))) for number in range(8)))
        self.assert_taken(tuple((0, 200, ()) for number in range(8)))

    def test_wants_in_between(self):
        for wants in ((0,), (6,), (0, 6), (1, 2, 5), (0, 1, 2, 3, 4, 5)):
            with self.subTest(wants=wants):
                self.assert_taken(book_with(7, (0, 200, wants)))

    def test_a_want_that_can_only_be_done_later_than_the_own_until(self):
        self.assert_taken(((100, 200, ()), (0, 5, (0,))))


class BooksRefused(unittest.TestCase):
    def assert_refused(self, book, number):
        for taker, *others in (*TAKERS, *TAKERS_OF_WRONG_ONES):
            with self.assertRaises(BadBook) as caught:
                taker(book, *others)
            self.assertEqual(caught.exception.number, number)

    def assert_command_refused(self, command, numbers=range(8)):
        for number in numbers:
            with self.subTest(command=command, number=number):
                self.assert_refused(book_with(number, command), number)

    def test_what_is_no_tuple(self):
        for book in (0, 1, 8, -1, True, [FINE]):
            with self.subTest(book=book):
                self.assert_refused(book, 0)

    def test_an_empty_one(self):
        self.assert_refused((), 0)

    def test_a_bare_command_is_no_book(self):
        self.assert_refused(FINE, 0)

    def test_a_command_that_is_no_such_tuple(self):
        for command in (0, 5, -1, (), (3,), (3, 7), (3, 7, (), ()), (3, 7, (), 0), [3, 7, ()], (FINE,)):
            self.assert_command_refused(command)

    def test_when_out_of_range(self):
        for command in ((-1, 7, ()), (201, 201, ()), (201, 200, ()), (201, 202, ()), (-200, 200, ())):
            self.assert_command_refused(command)

    def test_until_out_of_range(self):
        for command in ((3, 201, ()), (200, 201, ()), (0, -1, ()), (0, 1000, ())):
            self.assert_command_refused(command)

    def test_until_less_than_when(self):
        for command in ((1, 0, ()), (7, 6, ()), (200, 199, ()), (200, 0, ())):
            self.assert_command_refused(command)

    def test_beats_that_are_no_numbers(self):
        for wrong in ((), (3,), True, False):
            self.assert_command_refused((wrong, 7, ()))
            self.assert_command_refused((0, wrong, ()))

    def test_wants_that_are_no_tuple(self):
        for wants in (0, 1, -1, [], [0]):
            self.assert_command_refused((3, 7, wants))

    def test_wants_that_do_not_rise(self):
        for wants in ((1, 0), (0, 2, 1), (2, 0, 1), (2, 1, 0)):
            self.assert_command_refused((3, 7, wants), range(3, 8))

    def test_wants_that_name_a_number_twice(self):
        for wants in ((0, 0), (1, 1), (0, 1, 1), (0, 0, 1), (0, 1, 0)):
            self.assert_command_refused((3, 7, wants), range(2, 8))

    def test_wants_that_name_the_own_number_or_a_greater_one(self):
        for number in range(8):
            for want in range(number, 10):
                self.assert_command_refused((3, 7, (want,)), (number,))
                self.assert_command_refused((3, 7, tuple(range(number)) + (want,)), (number,))

    def test_wants_that_name_a_negative_number(self):
        for wants in ((-1,), (-1, 0), (-8,)):
            self.assert_command_refused((3, 7, wants))

    def test_wants_of_no_numbers(self):
        for wants in (((),), ((0,),), (False,), (0, True)):
            self.assert_command_refused((3, 7, wants), range(2, 8))

    def test_a_ninth_command(self):
        self.assert_refused((FINE,) * 9, 8)
        self.assert_refused((FINE,) * 10, 8)
        self.assert_refused((FINE,) * 300, 8)

    def test_a_ninth_that_is_wrong_by_itself_too(self):
        self.assert_refused(EIGHT + (0,), 8)
        self.assert_refused(EIGHT + (FINE, 0), 8)

    def test_of_two_wrong_things_the_first_tells_its_number(self):
        wrongs = (0, (), (-1, 7, ()), (3, 2, ()), (3, 201, ()), (3, 7, (9,)), (3, 7, (-1,)), (3, 7, 0))
        for first in range(8):
            for second in range(first + 1, 8):
                for wrong in wrongs:
                    for other in wrongs:
                        book = book_with(first, wrong)
                        book = book[:second] + (other,) + book[second + 1:]
                        self.assert_refused(book, first)

    def test_a_wrong_one_ahead_of_a_ninth_tells_its_number(self):
        for number in range(8):
            self.assert_refused(book_with(number, (8, 7, ())) + (FINE,), number)

    def test_one_of_a_single_command(self):
        self.assert_refused(((3, 2, ()),), 0)
        self.assert_refused(((3, 3, (0,)),), 0)


if __name__ == "__main__":
    unittest.main()
