"""Points 3 and 4: the words of a command, and the beats of a craft."""

import itertools
import unittest

from faruplink.craft import Craft
from faruplink.errors import BadLetters, Over
from faruplink.words import WORDS

LONG = (0, 200, ())


def cmd(number):
    return ("cmd", number)


def back(number):
    return ("back", number)


def states(book, *heard):
    """The states behind beat 0, 1, .. at which the letters of `heard` come."""
    craft = Craft(book)
    return [craft.beat(letters) for letters in heard]


def words(command, *heard):
    """The words of a book's only command behind beat 0, 1, .."""
    return [state[0] for state in states((command,), *heard)]


class Interface(unittest.TestCase):
    def test_beat_stands_in_the_class_itself(self):
        self.assertIn("beat", vars(Craft))

    def test_words_in_the_turn_of_point_3(self):
        self.assertEqual(WORDS, ("none", "held", "done", "back", "late"))

    def test_a_state_is_a_tuple_of_texts(self):
        state = Craft((LONG, LONG)).beat([cmd(1)])
        self.assertIs(state.__class__, tuple)
        self.assertEqual(state, ("none", "done"))


class AtFirst(unittest.TestCase):
    def test_all_are_none(self):
        for many in range(1, 9):
            self.assertEqual(states((LONG,) * many, []), [("none",) * many])

    def test_what_is_never_heard_stays_none(self):
        craft = Craft(((0, 0, ()), (100, 100, ()), (0, 200, (0, 1))))
        for beat in range(201):
            self.assertEqual(craft.beat([]), ("none", "none", "none"))


class ByACmd(unittest.TestCase):
    def test_held_ahead_of_its_when(self):
        self.assertEqual(words((2, 9, ()), [cmd(0)], []), ["held", "held"])

    def test_only_the_one_with_this_number(self):
        book = ((9, 9, ()),) * 8
        for number in range(8):
            state = ["none"] * 8
            state[number] = "held"
            self.assertEqual(states(book, [cmd(number)]), [tuple(state)])

    def test_again_for_one_that_is_held(self):
        self.assertEqual(words((2, 9, ()), [cmd(0)], [cmd(0)], [cmd(0)]), ["held", "held", "done"])

    def test_nothing_for_one_that_is_done(self):
        self.assertEqual(words((0, 1, ()), [cmd(0)], [cmd(0)], [cmd(0)]), ["done", "done", "done"])

    def test_nothing_for_one_that_is_back(self):
        self.assertEqual(words(LONG, [back(0)], [cmd(0)], []), ["back", "back", "back"])

    def test_nothing_for_one_that_is_late(self):
        self.assertEqual(words((0, 0, ()), [], [cmd(0)], [cmd(0)]), ["none", "late", "late"])


class ByABack(unittest.TestCase):
    def test_one_that_is_none(self):
        self.assertEqual(words(LONG, [back(0)], []), ["back", "back"])

    def test_one_that_is_none_behind_its_until(self):
        self.assertEqual(words((0, 0, ()), [], [back(0)], []), ["none", "back", "back"])

    def test_one_that_is_held(self):
        self.assertEqual(words((5, 9, ()), [cmd(0)], [back(0)], []), ["held", "back", "back"])

    def test_one_that_is_held_at_its_when(self):
        self.assertEqual(words((1, 9, ()), [cmd(0)], [back(0)]), ["held", "back"])

    def test_one_that_is_held_is_back_ahead_of_being_late(self):
        book = (LONG, (0, 0, (0,)))
        self.assertEqual(states(book, [cmd(1)], [back(1)], [])[1:], [("none", "back"), ("none", "back")])

    def test_nothing_for_one_that_is_done(self):
        self.assertEqual(words(LONG, [cmd(0)], [back(0)], []), ["done", "done", "done"])

    def test_nothing_for_one_that_is_late(self):
        self.assertEqual(words((0, 0, ()), [], [cmd(0)], [back(0)]), ["none", "late", "late"])

    def test_again_for_one_that_is_back(self):
        self.assertEqual(words(LONG, [back(0)], [back(0)]), ["back", "back"])

    def test_only_the_one_with_this_number(self):
        for number in range(8):
            state = ["none"] * 8
            state[number] = "back"
            self.assertEqual(states((LONG,) * 8, [back(number)]), [tuple(state)])


class LettersOfOneBeat(unittest.TestCase):
    def test_a_cmd_then_a_back(self):
        for command in (LONG, (1, 9, ()), (0, 0, ())):
            self.assertEqual(words(command, [cmd(0), back(0)], [], []), ["back"] * 3)

    def test_a_back_then_a_cmd(self):
        for command in (LONG, (1, 9, ()), (0, 0, ())):
            self.assertEqual(words(command, [back(0), cmd(0)], [], []), ["back"] * 3)

    def test_a_cmd_then_a_back_behind_its_until(self):
        self.assertEqual(words((0, 0, ()), [], [cmd(0), back(0)]), ["none", "back"])

    def test_the_same_cmd_twice(self):
        self.assertEqual(words((1, 9, ()), [cmd(0), cmd(0)], []), ["held", "done"])
        self.assertEqual(words(LONG, [cmd(0), cmd(0)]), ["done"])

    def test_the_same_back_twice(self):
        self.assertEqual(words(LONG, [back(0), back(0)], [cmd(0)]), ["back", "back"])

    def test_a_cmd_a_back_and_a_cmd(self):
        self.assertEqual(words(LONG, [cmd(0), back(0), cmd(0)]), ["back"])

    def test_of_several_numbers_in_any_turn(self):
        letters = [cmd(0), cmd(2), back(1), back(2)]
        for turn in itertools.permutations(letters):
            self.assertEqual(states((LONG,) * 3, list(turn)), [("done", "back", "back")])

    def test_very_many(self):
        self.assertEqual(states((LONG, LONG), [cmd(0)] * 500 + [cmd(1)]), [("done", "done")])


class AtItsBeats(unittest.TestCase):
    def test_held_up_to_its_when_then_done(self):
        for when in (0, 1, 2, 7):
            told = words((when, 9, ()), [cmd(0)], *([[]] * 9))
            self.assertEqual(told, ["held"] * when + ["done"] * (10 - when))

    def test_heard_at_each_beat(self):
        for heard in range(12):
            told = words((3, 6, ()), *([[]] * heard), [cmd(0)], [])
            want = "held" if heard < 3 else "done" if heard <= 6 else "late"
            self.assertEqual(told[:heard], ["none"] * heard)
            self.assertEqual(told[heard], want)
            self.assertEqual(told[heard + 1], "done" if heard == 2 else want)

    def test_heard_at_its_only_beat_and_one_behind_it(self):
        self.assertEqual(words((2, 2, ()), [], [], [cmd(0)]), ["none", "none", "done"])
        self.assertEqual(words((2, 2, ()), [], [], [], [cmd(0)]), ["none", "none", "none", "late"])

    def test_held_at_its_until_late_one_behind_it(self):
        book = (LONG, (0, 2, (0,)))
        told = [state[1] for state in states(book, [cmd(1)], [], [], [], [])]
        self.assertEqual(told, ["held", "held", "held", "late", "late"])


class Wants(unittest.TestCase):
    def test_done_in_the_same_beat(self):
        book = tuple((0, 200, tuple(range(number))) for number in range(8))
        self.assertEqual(states(book, [cmd(number) for number in range(8)]), [("done",) * 8])
        self.assertEqual(states(book, [cmd(number) for number in reversed(range(8))]), [("done",) * 8])

    def test_a_chain_waits_for_its_first(self):
        book = ((2, 200, ()), (0, 200, (0,)), (0, 200, (1,)), (0, 200, (2,)))
        told = states(book, [cmd(number) for number in range(4)], [], [])
        self.assertEqual(told, [("held",) * 4, ("held",) * 4, ("done",) * 4])

    def test_done_earlier(self):
        book = (LONG, (0, 200, (0,)))
        self.assertEqual(states(book, [cmd(0)], [], [cmd(1)])[-1], ("done", "done"))

    def test_done_later(self):
        book = (LONG, (0, 200, (0,)))
        told = states(book, [cmd(1)], [], [cmd(0)])
        self.assertEqual(told, [("none", "held"), ("none", "held"), ("done", "done")])

    def test_done_just_at_the_until(self):
        book = (LONG, (0, 2, (0,)))
        self.assertEqual(states(book, [cmd(1)], [], [cmd(0)])[-1], ("done", "done"))

    def test_done_one_behind_the_until(self):
        book = (LONG, (0, 2, (0,)))
        self.assertEqual(states(book, [cmd(1)], [], [], [cmd(0)])[-1], ("done", "late"))

    def test_done_does_not_do_it_ahead_of_its_when(self):
        book = (LONG, (1, 2, (0,)))
        self.assertEqual(states(book, [cmd(0), cmd(1)], []), [("done", "held"), ("done", "done")])

    def test_never_done(self):
        for ahead in ([], [back(0)]):
            book = (LONG, (0, 2, (0,)))
            told = [state[1] for state in states(book, [*ahead, cmd(1)], [], [], [])]
            self.assertEqual(told, ["held", "held", "held", "late"])

    def test_a_want_that_is_late_is_not_done(self):
        book = ((0, 0, ()), (0, 2, (0,)))
        told = states(book, [], [cmd(0), cmd(1)], [], [])
        self.assertEqual(told, [("none", "none"), ("late", "held"), ("late", "held"), ("late", "late")])

    def test_a_want_that_is_held_is_not_done(self):
        book = ((5, 9, ()), (0, 9, (0,)))
        self.assertEqual(states(book, [cmd(0), cmd(1)]), [("held", "held")])

    def test_all_of_them_are_needed(self):
        book = (LONG, LONG, LONG, (0, 200, (0, 1, 2)))
        for many in range(4):
            for sent in itertools.combinations(range(3), many):
                state = states(book, [cmd(3)] + [cmd(number) for number in sent])[0]
                self.assertEqual(state[3], "done" if many == 3 else "held")

    def test_only_what_it_wants_is_needed(self):
        book = (LONG, LONG, LONG, (0, 200, (1,)))
        self.assertEqual(states(book, [cmd(3), cmd(1)]), [("none", "done", "none", "done")])

    def test_what_it_wants_does_not_want_it(self):
        book = (LONG, (0, 200, (0,)))
        self.assertEqual(states(book, [cmd(0)], [back(1)], []), [("done", "none"), ("done", "back"), ("done", "back")])


class EveryMove(unittest.TestCase):
    def test_words_go_only_where_point_4_lets_them(self):
        moves = {
            "none": ("none", "held", "done", "back", "late"),
            "held": ("held", "done", "back", "late"),
            "done": ("done",),
            "back": ("back",),
            "late": ("late",),
        }
        letters = [[], [cmd(0)], [cmd(1)], [back(0)], [back(1)], [cmd(0), cmd(1)], [cmd(1), back(0)]]
        met = set()
        for heard in itertools.product(letters, repeat=4):
            told = [("none", "none"), *states(((1, 1, ()), (0, 2, (0,))), *heard)]
            for state, later in zip(told, told[1:]):
                for word, next_word in zip(state, later):
                    self.assertIn(next_word, moves[word])
                    met.add((word, next_word))
            self.assertNotIn("held", told[-1])
        self.assertEqual(len(met), sum(len(nexts) for nexts in moves.values()))


class TheLastBeat(unittest.TestCase):
    def test_beats_0_to_200_then_over_again_and_again(self):
        craft = Craft((LONG, (200, 200, ())))
        for beat in range(200):
            self.assertEqual(craft.beat([cmd(1)] if beat == 0 else []), ("none", "held"))
        self.assertEqual(craft.beat([]), ("none", "done"))
        for letters in ([], [cmd(0)], [back(0)], [cmd(0), back(1)], []):
            self.assertRaises(Over, craft.beat, letters)

    def test_done_when_heard_at_beat_200(self):
        self.assertEqual(words(LONG, *([[]] * 200), [cmd(0)])[-1], "done")

    def test_held_behind_beat_200(self):
        self.assertEqual(states((LONG, (0, 200, (0,))), *([[]] * 200), [cmd(1)])[-1], ("none", "held"))

    def test_bad_letters_are_looked_at_ahead_of_over(self):
        craft = Craft((LONG,))
        for beat in range(201):
            craft.beat([])
        self.assertRaises(BadLetters, craft.beat, [cmd(1)])
        self.assertRaises(Over, craft.beat, [cmd(0)])


class LettersRefused(unittest.TestCase):
    WRONG = (
        ("send", 0), ("call", 0), ("none", 0), ("held", 0), ("done", 0), ("late", 0), ("Cmd", 0), ("cmd ", 0), ("", 0),
        (), ("cmd",), ("back",), (0,), ("cmd", 0, 0), ("back", 1, 0), ("cmd", 0, "back", 0),
        ("cmd", 3), ("back", 3), ("cmd", 8), ("cmd", -1), ("back", -1), ("back", -3), ("cmd", 201),
        ("cmd", "0"), ("cmd", "cmd"), ("back", ""), (0, "cmd"), (0, 0), (1, "back"),
        ("cmd", True), ("back", False), ["cmd", 0],
    )
    BOOK = (LONG,) * 3

    def assert_refused(self, letters, at):
        with self.subTest(letters=letters):
            with self.assertRaises(BadLetters) as caught:
                Craft(self.BOOK).beat(letters)
            self.assertEqual(caught.exception.at, at)

    def test_alone(self):
        for wrong in self.WRONG:
            self.assert_refused([wrong], 0)

    def test_at_the_first_a_middle_and_the_last_place(self):
        fine = [cmd(0), back(1), cmd(2), back(2), cmd(0)]
        for wrong in self.WRONG:
            for at in range(6):
                self.assert_refused(fine[:at] + [wrong] + fine[at:], at)

    def test_two_of_them_in_one_list(self):
        for wrong, other in itertools.product(self.WRONG, repeat=2):
            self.assert_refused([wrong, other], 0)
            self.assert_refused([cmd(0), wrong, back(0), other], 1)

    def test_numbers_by_the_size_of_the_book(self):
        for many in range(1, 9):
            for word in ("cmd", "back"):
                Craft((LONG,) * many).beat([(word, many - 1)])
                with self.assertRaises(BadLetters) as caught:
                    Craft((LONG,) * many).beat([(word, 0), (word, many)])
                self.assertEqual(caught.exception.at, 1)

    def test_at_a_later_beat(self):
        craft = Craft(self.BOOK)
        craft.beat([cmd(0)])
        with self.assertRaises(BadLetters) as caught:
            craft.beat([cmd(1), cmd(2), cmd(3)])
        self.assertEqual(caught.exception.at, 2)


if __name__ == "__main__":
    unittest.main()
