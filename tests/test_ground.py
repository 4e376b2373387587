"""Points 5 and 6: what a ground sends, hears and tells."""

import itertools
import random
import unittest

from every_loss import EveryLoss, EveryState, all_reports, back, cmd
from faruplink.craft import Craft
from faruplink.doubt import Ground
from faruplink.errors import BadLetters, BadReport, Over

LONG = (0, 200, ())
ALL = ["none", "held", "done", "back", "late"]


def ground_with(book, delay, *sent):
    """A ground behind so many beats as there are lists of letters, each list sent ahead of its beat."""
    ground = Ground(book, delay)
    for letters in sent:
        ground.send(letters)
        ground.beat()
    return ground


def words(command, delay, *sent):
    """What doubt tells of a book's only command, at each beat behind the first."""
    ground = Ground((command,), delay)
    told = []
    for letters in sent:
        ground.send(letters)
        ground.beat()
        told.append(ground.doubt()[0])
    return told


class Interface(unittest.TestCase):
    def test_each_method_stands_in_the_class_itself(self):
        for name in ("send", "beat", "hear", "now", "doubt", "ends"):
            self.assertIn(name, vars(Ground))

    def test_kinds_of_what_is_told(self):
        ground = Ground((LONG, LONG), 1)
        self.assertIsNone(ground.send([cmd(0)]))
        self.assertIsNone(ground.beat())
        self.assertIsNone(ground.hear(0, ("none", "none")))
        self.assertIs(ground.now().__class__, int)
        self.assertIs(ground.doubt().__class__, list)
        self.assertEqual([words.__class__ for words in ground.doubt()], [list, list])
        self.assertIs(ground.ends().__class__, list)

    def test_at_first(self):
        for many in range(1, 9):
            ground = Ground((LONG,) * many, 1)
            self.assertEqual(ground.now(), 0)
            self.assertEqual(ground.doubt(), [["none"]] * many)
            self.assertEqual(ground.ends(), [None] * many)


class Beats(unittest.TestCase):
    def test_up_to_200_then_over_again_and_again(self):
        ground = Ground(((200, 200, ()), LONG), 1)
        ground.send([cmd(0)])
        for beat in range(200):
            self.assertEqual(ground.now(), beat)
            self.assertIsNone(ground.beat())
        for again in range(3):
            self.assertEqual(ground.now(), 200)
            self.assertEqual(ground.doubt(), [["none", "done"], ["none"]])
            self.assertEqual(ground.ends(), [None, "not"])
            self.assertRaises(Over, ground.beat)

    def test_letters_and_reports_at_beat_200(self):
        ground = ground_with((LONG, LONG), 1, *([[]] * 199), [cmd(0)])
        ground.send([cmd(1)])
        ground.hear(200, ("done", "none"))
        self.assertRaises(BadReport, ground.hear, 201, ("done", "none"))
        self.assertRaises(Over, ground.beat)
        self.assertEqual(ground.doubt(), [["done"], ["none"]])

    def test_every_delay_and_every_beat(self):
        for delay in range(1, 10):
            for sent in range(4):
                ground = Ground((LONG,), delay)
                for beat in range(15):
                    self.assertEqual(ground.doubt(), [["none", "done"] if beat >= sent + delay else ["none"]])
                    if beat == sent:
                        ground.send([cmd(0)])
                        self.assertEqual(ground.doubt(), [["none"]])
                    ground.beat()

    def test_letters_that_would_come_behind_beat_200(self):
        ground = ground_with((LONG,), 9, *([[]] * 192), [cmd(0)], *([[]] * 7))
        self.assertEqual(ground.now(), 200)
        self.assertEqual(ground.doubt(), [["none"]])


class Sends(unittest.TestCase):
    def test_wrong_letters_are_refused_with_the_first_place(self):
        wrong = (("send", 0), ("cmd", 2), ("back", -1), ("cmd",), (), (0, "cmd"), ("cmd", "0"), ("cmd", 0, 0))
        fine = [cmd(0), back(1), cmd(1)]
        for letter, other in itertools.product(wrong, repeat=2):
            for at in range(4):
                with self.subTest(letter=letter, other=other, at=at):
                    ground = Ground((LONG, LONG), 1)
                    with self.assertRaises(BadLetters) as caught:
                        ground.send(fine[:at] + [letter] + fine[at:] + [other])
                    self.assertEqual(caught.exception.at, at)
                    ground.beat()
                    self.assertEqual(ground.doubt(), [["none"], ["none"]])

    def test_none_at_all(self):
        self.assertEqual(words(LONG, 1, [], []), [["none"], ["none"]])

    def test_in_several_sends_of_one_beat(self):
        ground = Ground((LONG, LONG), 1)
        ground.send([cmd(0)])
        ground.send([])
        ground.send([back(0), cmd(1)])
        ground.beat()
        self.assertEqual(ground.doubt(), [["none", "done", "back"], ["none", "done"]])

    def test_letters_of_one_beat_in_both_turns(self):
        for command in (LONG, (2, 9, ())):
            word = "done" if command == LONG else "held"
            for letters in ([cmd(0), back(0)], [back(0), cmd(0)]):
                self.assertEqual(words(command, 1, letters), [["none", word, "back"]])
                ground = ground_with((command, command), 1, letters + [cmd(1)])
                ground.hear(1, ("back", word))
                self.assertEqual(ground.doubt(), [["back"], [word]])

    def test_the_turn_of_one_beat_matters(self):
        # Held behind beat 1; at beat 2 the first of [cmd, back] does nothing, so the second alone decides.
        ground = ground_with(((0, 200, ()), (0, 200, (0,))), 1, [cmd(1)])
        ground.hear(1, ("none", "held"))
        ground.send([cmd(0), back(1)])
        ground.beat()
        self.assertEqual(ground.doubt(), [["none", "done"], ["held", "done", "back"]])
        ground.hear(2, ("done", "back"))

    def test_very_many_letters_of_one_beat(self):
        ground = Ground((LONG, LONG), 1)
        ground.send([cmd(0), back(0)] * 400 + [cmd(1)] * 400)
        ground.beat()
        self.assertEqual(ground.doubt(), [["none", "done", "back"], ["none", "done"]])
        ground.hear(1, ("back", "done"))


class Doubts(unittest.TestCase):
    def test_by_the_beats_of_a_command(self):
        told = words((3, 5, ()), 1, [cmd(0)], [], [], [], [cmd(0)], [], [cmd(0)])
        held, done, late = ["none", "held"], ["none", "done"], ["none", "done", "late"]
        self.assertEqual(told, [held, held, done, done, done, done, late])

    def test_every_word_in_the_turn_of_point_3(self):
        ground = ground_with((LONG, (0, 4, (0,))), 1, [cmd(0), cmd(1), back(1)], [cmd(1)], [], [])
        self.assertEqual(ground.doubt()[1], ["none", "held", "done", "back"])
        ground.beat()
        self.assertEqual(ground.doubt()[1], ["none", "done", "back", "late"])

    def test_of_what_wants_others(self):
        ground = ground_with((LONG, (0, 200, (0,)), (0, 3, (0, 1))), 1, [cmd(1), cmd(2)], [cmd(0)], [], [])
        self.assertEqual(ground.doubt(), [["none", "done"], ["none", "held", "done"], ["none", "done", "late"]])
        ground.hear(3, ("done", "none", "held"))
        self.assertEqual(ground.doubt(), [["done"], ["none"], ["late"]])

    def test_what_wants_one_that_is_surely_done_is_not_held(self):
        ground = ground_with((LONG, (0, 200, (0,))), 1, [cmd(0)])
        ground.hear(1, ("done", "none"))
        ground.send([cmd(1)])
        ground.beat()
        self.assertEqual(ground.doubt(), [["done"], ["none", "done"]])

    def test_what_wants_one_that_can_not_be_done_is_not_done(self):
        ground = ground_with((LONG, (0, 200, (0,))), 1, [back(0)])
        ground.hear(1, ("back", "none"))
        ground.send([cmd(0), cmd(1)])
        ground.beat()
        self.assertEqual(ground.doubt(), [["back"], ["none", "held"]])

    def test_a_report_of_now_leaves_no_doubt(self):
        ground = ground_with((LONG, LONG), 1, [cmd(0), cmd(1)])
        ground.hear(1, ("done", "none"))
        self.assertEqual(ground.doubt(), [["done"], ["none"]])

    def test_a_report_does_not_tell_of_letters_that_come_behind_it(self):
        ground = ground_with((LONG, LONG), 1, [cmd(0)], [cmd(1)])
        ground.hear(1, ("done", "none"))
        self.assertEqual(ground.doubt(), [["done"], ["none", "done"]])


class Ends(unittest.TestCase):
    def test_none_ahead_of_until_not_from_it_on(self):
        for until in range(6):
            ground = Ground(((0, until, ()), LONG), 1)
            for beat in range(9):
                self.assertEqual(ground.ends(), ["not" if beat >= until else None, None])
                ground.beat()

    def test_held_at_ahead_of_and_behind_until(self):
        ground = ground_with((LONG, (0, 4, (0,))), 1, [cmd(1)])
        ground.hear(1, ("none", "held"))
        told = []
        for beat in range(1, 8):
            told.append((ground.doubt()[1], ground.ends()[1]))
            ground.beat()
        held, late = ["held"], ["late"]
        self.assertEqual(told, [(held, None)] * 3 + [(held, "not")] + [(late, "not")] * 3)

    def test_one_that_may_be_done_ahead_of_at_and_behind_until(self):
        ground = ground_with(((0, 3, ()),), 1, [cmd(0)])
        for beat in range(8):
            self.assertEqual(ground.ends(), [None])
            ground.beat()

    def test_done(self):
        ground = ground_with(((0, 9, ()),), 1, [cmd(0)])
        self.assertEqual(ground.ends(), [None])
        ground.hear(1, ("done",))
        for beat in range(12):
            self.assertEqual(ground.ends(), ["done"])
            ground.beat()

    def test_back(self):
        ground = ground_with((LONG,), 1, [back(0)])
        self.assertEqual((ground.doubt(), ground.ends()), ([["none", "back"]], [None]))
        ground.hear(1, ("back",))
        self.assertEqual((ground.doubt(), ground.ends()), ([["back"]], ["not"]))

    def test_back_or_held_ahead_of_until_is_not_sure(self):
        ground = ground_with(((5, 9, ()),), 1, [cmd(0)], [back(0)])
        ground.hear(1, ("held",))
        self.assertEqual((ground.doubt(), ground.ends()), ([["held", "back"]], [None]))

    def test_all_words_but_done_at_until(self):
        ground = ground_with((LONG, (0, 3, (0,))), 1, [cmd(1), back(1)], [], [])
        self.assertEqual((ground.doubt()[1], ground.ends()[1]), (["none", "held", "back"], "not"))
        ground.send([cmd(1)])
        ground.beat()
        self.assertEqual((ground.doubt()[1], ground.ends()[1]), (["none", "back", "late"], "not"))

    def test_late(self):
        ground = ground_with(((0, 1, ()),), 1, [], [cmd(0)])
        ground.hear(2, ("late",))
        self.assertEqual((ground.doubt(), ground.ends()), ([["late"]], ["not"]))

    def test_not_is_told_by_the_words_alone(self):
        # What wants a command that is back can never be done, but its own words tell it only from its until on.
        ground = ground_with((LONG, (0, 3, (0,))), 1, [back(0)], [])
        ground.hear(1, ("back", "none"))
        self.assertEqual(ground.ends(), ["not", None])
        ground.beat()
        self.assertEqual(ground.ends(), ["not", "not"])

    def test_what_is_told_stays_whatever_is_sent_and_lost(self):
        book = ((0, 2, ()), (1, 3, (0,)))
        letters = ([], [cmd(0)], [cmd(1)], [back(1)], [cmd(0), cmd(1)])
        for sent in itertools.product(letters, repeat=3):
            tried = EveryLoss(book, 1)
            ground = Ground(book, 1)
            sure = [None, None]
            for some in (*sent, [cmd(0), cmd(1)], []):
                tried.send(some)
                ground.send(some)
                tried.beat()
                ground.beat()
                for number, end in enumerate(ground.ends()):
                    self.assertIn(sure[number], (None, end))
                sure = ground.ends()
                for state in {states[-1] for states in tried.ways}:
                    for word, end in zip(state, sure):
                        self.assertTrue(end != "done" or word == "done")
                        self.assertTrue(end != "not" or word != "done")


class AgainstEveryLoss(unittest.TestCase):
    def assert_same_at_every_beat(self, book, delay, sent):
        ground = Ground(book, delay)
        tried = EveryLoss(book, delay)
        for letters in (*sent, *([[]] * (delay + 1))):
            ground.send(letters)
            tried.send(letters)
            ground.beat()
            tried.beat()
            self.assertEqual(ground.doubt(), tried.doubt(), (book, delay, sent))
            self.assertEqual(ground.ends(), tried.ends(), (book, delay, sent))

    def test_one_command(self):
        letters = ([], [cmd(0)], [back(0)], [cmd(0), back(0)], [back(0), cmd(0)])
        for when in range(4):
            for until in range(when, 5):
                for sent in itertools.product(letters, repeat=3):
                    self.assert_same_at_every_beat(((when, until, ()),), 1, sent)

    def test_two_commands_of_which_one_wants_the_other(self):
        letters = ([], [cmd(0)], [cmd(1)], [back(1)], [back(0), cmd(0)], [cmd(1), cmd(0)])
        for first, second in itertools.product(((0, 2, ()), (2, 3, ()), (0, 9, ())), ((0, 2, (0,)), (1, 9, (0,)))):
            for sent in itertools.product(letters, repeat=3):
                self.assert_same_at_every_beat((first, second), 2, sent)

    def test_some_of_many(self):
        chance = random.Random(5)
        for again in range(150):
            book = some_book(chance, chance.randint(2, 4), 6)
            sent = some_letters(chance, len(book), 6, 8)
            self.assert_same_at_every_beat(book, chance.randint(1, 3), sent)


def some_book(chance, many, last):
    book = []
    for number in range(many):
        when = chance.choice((0, 0, chance.randint(0, last)))
        wants = tuple(want for want in range(number) if chance.random() < 0.5)
        book.append((when, chance.randint(when, last + 2), wants))
    return tuple(book)


def some_letters(chance, many, beats, most):
    sent = [[] for beat in range(beats)]
    for letter in range(most):
        word = chance.choice(("cmd", "cmd", "cmd", "back"))
        sent[chance.choice((0, chance.randrange(beats)))].append((word, chance.randrange(many)))
    return sent


class Reports(unittest.TestCase):
    def assert_refused(self, ground, beat, report):
        before = (ground.now(), ground.doubt(), ground.ends())
        with self.assertRaises(BadReport, msg=(beat, report)):
            ground.hear(beat, report)
        self.assertEqual((ground.now(), ground.doubt(), ground.ends()), before)

    def test_of_beat_0(self):
        ground = Ground((LONG, LONG), 1)
        for report in all_reports(2):
            if report != ("none", "none"):
                self.assert_refused(ground, 0, report)
        ground.hear(0, ("none", "none"))
        ground.beat()
        ground.hear(0, ("none", "none"))
        self.assert_refused(ground, 0, ("done", "none"))

    def test_of_beats_to_come_and_of_beats_below_0(self):
        ground = Ground((LONG,), 1)
        for beat in range(4):
            for other in (beat + 1, beat + 2, 200, 201, 1000, -1, -2, -beat - 1, -200):
                self.assert_refused(ground, other, ("none",))
            ground.hear(beat, ("none",))
            ground.beat()

    def test_of_what_is_no_beat(self):
        ground = ground_with((LONG,), 1, [])
        for beat in (True, False):
            self.assert_refused(ground, beat, ("none",))

    def test_of_what_is_no_state(self):
        ground = ground_with((LONG, LONG), 1, [cmd(0)])
        wrong = ((), ("none",), ("done",), ("none",) * 3, ("done", "none", "none"), ("none", "gone"), ("", ""))
        for report in (*wrong, ("cmd", "none"), ("None", "none"), ("none", "not")):
            self.assert_refused(ground, 1, report)
        ground.hear(1, ("done", "none"))

    def test_that_no_losses_come_to(self):
        ground = ground_with((LONG, (3, 200, ())), 1, [cmd(0), cmd(1)])
        for report in all_reports(2):
            if report[0] not in ("none", "done") or report[1] not in ("none", "held"):
                self.assert_refused(ground, 1, report)
        ground.hear(1, ("none", "held"))

    def test_of_letters_still_under_way(self):
        ground = ground_with((LONG,), 3, [cmd(0)], [])
        self.assert_refused(ground, 2, ("done",))
        ground.beat()
        self.assert_refused(ground, 2, ("done",))
        ground.hear(3, ("done",))

    def test_at_beat_200(self):
        book = (LONG, (0, 200, (0,)), (0, 199, ()), (0, 199, (0,)))
        ground = ground_with(book, 1, [cmd(1), cmd(3)], *([[]] * 199))
        for report in all_reports(4):
            words = ("none",), ("none", "held"), ("none",), ("none", "late")
            if all(word in some for word, some in zip(report, words)):
                continue
            self.assert_refused(ground, 200, report)
        ground.hear(200, ("none", "held", "none", "late"))

    def test_that_do_not_go_with_what_was_heard(self):
        ground = ground_with((LONG, LONG), 1, [cmd(0), cmd(1)], [cmd(0)])
        ground.hear(1, ("none", "done"))
        self.assertEqual(ground.doubt(), [["none", "done"], ["done"]])
        for report in (("none", "none"), ("done", "none"), ("held", "done"), ("back", "done")):
            self.assert_refused(ground, 2, report)
        ground.hear(2, ("done", "done"))
        self.assert_refused(ground, 2, ("none", "done"))
        self.assert_refused(ground, 1, ("done", "done"))

    def test_heard_twice(self):
        ground = ground_with((LONG,), 1, [cmd(0)], [cmd(0)])
        for again in range(3):
            ground.hear(1, ("none",))
            self.assertEqual(ground.doubt(), [["none", "done"]])
            self.assert_refused(ground, 1, ("done",))

    def test_heard_late(self):
        ground = ground_with((LONG,), 1, [cmd(0)], *([[]] * 150))
        self.assertEqual(ground.doubt(), [["none", "done"]])
        ground.hear(1, ("done",))
        self.assertEqual(ground.doubt(), [["done"]])
        self.assertEqual(ground.ends(), ["done"])

    def test_heard_out_of_turn(self):
        ground = ground_with((LONG, LONG), 1, [cmd(0)], [cmd(1)], [cmd(0), cmd(1)], [])
        ground.hear(3, ("done", "none"))
        self.assertEqual(ground.doubt(), [["done"], ["none"]])
        self.assert_refused(ground, 2, ("none", "done"))
        ground.hear(2, ("none", "none"))
        self.assert_refused(ground, 1, ("done", "none"))
        ground.hear(1, ("none", "none"))
        self.assertEqual(ground.doubt(), [["done"], ["none"]])

    def test_one_of_an_earlier_beat_tells_nothing_new_behind_a_later_one(self):
        ground = ground_with((LONG, LONG), 1, [cmd(0)], [cmd(1)])
        ground.hear(1, ("done", "none"))
        ground.send([cmd(1)])
        ground.beat()
        before = ground.doubt()
        ground.hear(0, ("none", "none"))
        self.assertEqual(ground.doubt(), before)

    def test_a_refused_one_does_not_bar_a_true_one(self):
        ground = ground_with((LONG, LONG), 1, [cmd(0)], [cmd(1)])
        for report in all_reports(2):
            if report[0] not in ("none", "done") or report[1] not in ("none", "done"):
                self.assert_refused(ground, 2, report)
        for report in all_reports(2):
            if report[0] not in ("none", "done") or report[1] != "none":
                self.assert_refused(ground, 1, report)
        ground.hear(1, ("none", "none"))
        ground.hear(2, ("none", "done"))


class ReportsOfWhatWaits(unittest.TestCase):
    """Reports that can be only because something that is wanted was done late, or that can't be as it was not."""

    def can_hear(self, ground, report):
        try:
            ground.hear(ground.now(), report)
        except BadReport:
            return False
        return True

    def test_late_as_what_it_wants_was_done_behind_its_until(self):
        book = ((0, 9, ()), (0, 2, (0,)))
        for second in range(1, 5):
            sent = [[cmd(0), cmd(1)], [], [], [], []]
            sent[second] = [cmd(0)]
            ground = ground_with(book, 1, *sent)
            # The second cmd comes a beat later; from beat 3 on it is behind the until.
            self.assertEqual(self.can_hear(ground, ("done", "late")), second + 1 > 2)

    def test_late_as_its_own_cmd_came_behind_its_until(self):
        book = ((0, 9, ()), (0, 2, (0,)))
        self.assertTrue(self.can_hear(ground_with(book, 1, [cmd(0)], [], [cmd(1)]), ("done", "late")))
        self.assertFalse(self.can_hear(ground_with(book, 1, [cmd(0)], [cmd(1)], []), ("done", "late")))

    def test_late_through_a_chain(self):
        book = ((0, 9, ()), (0, 9, (0,)), (0, 9, (1,)), (0, 2, (2,)))
        early = [cmd(number) for number in range(4)]
        done = ("done", "done", "done", "late")
        self.assertFalse(self.can_hear(ground_with(book, 1, early, [], [], []), done))
        for number in range(3):
            self.assertTrue(self.can_hear(ground_with(book, 1, early, [], [], [cmd(number)]), done))
            self.assertFalse(self.can_hear(ground_with(book, 1, early, [cmd(number)], [], []), done))

    def test_late_by_a_when(self):
        for when in range(5):
            ground = ground_with(((when, 9, ()), (0, 2, (0,))), 1, [cmd(0), cmd(1)], [], [], [], [])
            self.assertEqual(self.can_hear(ground, ("done", "late")), when > 2)

    def test_one_must_wait_and_another_must_not(self):
        # 2 is late, so 0 or 1 was done behind beat 2; 3 is done by beat 2, so 0 was done by then, and it was 1.
        book = ((0, 9, ()), (0, 9, ()), (0, 2, (0, 1)), (0, 2, (0,)))
        early = [cmd(number) for number in range(4)]
        report = ("done", "done", "late", "done")
        self.assertTrue(self.can_hear(ground_with(book, 1, early, [], [], [cmd(1)]), report))
        self.assertFalse(self.can_hear(ground_with(book, 1, early, [], [], [cmd(0)]), report))
        self.assertTrue(self.can_hear(ground_with(book, 1, early, [], [], [cmd(0), cmd(1)]), report))
        self.assertFalse(self.can_hear(ground_with(book, 1, early, [], [], []), report))

    def test_two_wait_for_the_same_to_different_beats(self):
        book = ((0, 9, ()), (0, 2, (0,)), (0, 4, (0,)), (0, 6, (0,)))
        early = [cmd(number) for number in range(4)]
        for beat in range(1, 8):
            sent = [early, *([[]] * 7)]
            sent[beat - 1] = sent[beat - 1] + [cmd(0)]
            words = tuple("done" if beat <= until else "late" for until in (2, 4, 6))
            for report in itertools.product(("done", "late"), repeat=3):
                ground = ground_with(book, 1, *sent)
                self.assertEqual(self.can_hear(ground, ("done", *report)), report in (words, ("done",) * 3))

    def test_back_as_what_it_wants_was_not_done_ahead_of_the_call(self):
        book = ((0, 9, ()), (0, 9, (0,)))
        for second in range(1, 6):
            sent = [[cmd(0), cmd(1)], [], [], [back(1)], [], []]
            ground = ground_with(book, 1, *sent[:1])
            ground.hear(1, ("none", "held"))
            for beat in range(1, 6):
                ground.send(sent[beat] + ([cmd(0)] if beat == second else []))
                ground.beat()
            # At beat 4 the call comes; it is heard ahead of what the craft does at this beat.
            self.assertEqual(self.can_hear(ground, ("done", "back")), second + 1 >= 4)

    def test_back_as_what_it_wants_was_done_no_sooner_than_it_could_be(self):
        book = ((0, 9, ()), (0, 9, (0,)))
        for second in range(2, 6):
            ground = ground_with(book, 1, [cmd(1)])
            ground.hear(1, ("none", "held"))
            for beat in range(1, 6):
                ground.send([cmd(0)] if beat in (1, second) else [back(1)] if beat == 3 else [])
                if beat == second == 3:
                    ground.send([back(1)])
                ground.beat()
            self.assertEqual(self.can_hear(ground, ("done", "back")), second + 1 >= 4)

    def test_back_by_the_first_call_and_another_not_late(self):
        # 0 was done no sooner than the first call for 1 came, at beat 3, and by beat 5, the until of 2: at beat 4.
        book = ((0, 9, ()), (0, 9, (0,)), (0, 5, (0,)))
        plan = {2: [cmd(0)], 3: [back(1)], 4: [cmd(0)], 6: [back(1)], 7: [cmd(0)]}
        for without in (None, 3, 4):
            ground = ground_with(book, 1, [cmd(1), cmd(2)])
            ground.hear(1, ("none", "held", "held"))
            for beat in range(2, 9):
                ground.send(plan.get(beat, []) if beat != without else [])
                ground.beat()
            self.assertEqual(self.can_hear(ground, ("done", "back", "done")), without is None)

    def test_what_is_held_is_done_as_soon_as_it_can_be_whatever_comes_later(self):
        ground = ground_with(((2, 9, ()), (0, 4, (0,))), 1, [cmd(0), cmd(1)])
        ground.hear(1, ("held", "held"))
        for letters in ([], [], [], [], [cmd(0)], []):
            ground.send(letters)
            ground.beat()
        self.assertFalse(self.can_hear(ground, ("done", "late")))
        self.assertTrue(self.can_hear(ground, ("done", "done")))

    def test_back_by_the_first_of_several_calls(self):
        book = ((0, 9, ()), (0, 9, (0,)))
        ground = ground_with(book, 1, [cmd(1)])
        ground.hear(1, ("none", "held"))
        for letters in ([back(1)], [cmd(0)], [back(1)], [back(1)]):
            ground.send(letters)
            ground.beat()
        self.assertTrue(self.can_hear(ground, ("done", "back")))

    def test_held_at_its_until_then_back_or_late(self):
        book = ((0, 9, ()), (0, 2, (0,)))
        for report in (("none", "back"), ("none", "late"), ("done", "back"), ("done", "late")):
            ground = ground_with(book, 1, [cmd(1)], [])
            ground.hear(2, ("none", "held"))
            ground.send([back(1), cmd(0)])
            ground.beat()
            self.assertTrue(self.can_hear(ground, report))

    def test_held_is_late_a_beat_behind_its_until_and_no_call_comes_in_time(self):
        ground = ground_with(((0, 9, ()), (0, 2, (0,))), 1, [cmd(1)], [], [], [back(1)])
        self.assertTrue(self.can_hear(ground, ("none", "back")))
        ground = ground_with(((0, 9, ()), (0, 2, (0,))), 1, [cmd(1)], [], [], [back(1)])
        ground.hear(1, ("none", "held"))
        self.assertFalse(self.can_hear(ground, ("none", "back")))
        self.assertTrue(self.can_hear(ground, ("none", "late")))

    def test_back_and_late_stay(self):
        for word, sent in (("back", [back(0)]), ("late", [cmd(0)])):
            ground = ground_with(((0, 0, ()),), 1, sent)
            ground.hear(1, (word,))
            for letters in ([cmd(0), back(0)], [cmd(0)], [back(0)]):
                ground.send(letters)
                ground.beat()
            for other in ALL:
                self.assertEqual(self.can_hear(ground, (other,)), other == word)


class ReportsAgainstEveryLoss(unittest.TestCase):
    def made(self, kind, book, delay, sent, heard=()):
        ground = kind(book, delay)
        for letters in sent:
            ground.send(letters)
            ground.beat()
        for beat, report in heard:
            ground.hear(beat, report)
        return ground

    def assert_same_for_each_report(self, book, delay, sent, heard=()):
        """Tells what can be heard, behind the reports that were."""
        tried = self.made(EveryLoss, book, delay, sent, heard)
        told = []
        for beat, report in itertools.product(range(len(sent) + 1), all_reports(len(book))):
            ground = self.made(Ground, book, delay, sent, heard)
            before = (ground.doubt(), ground.ends())
            why = (book, delay, sent, heard, beat, report)
            if not tried.can_hear(beat, report):
                with self.assertRaises(BadReport, msg=why):
                    ground.hear(beat, report)
                self.assertEqual((ground.doubt(), ground.ends()), before, why)
                continue
            told.append((beat, report))
            ground.hear(beat, report)
            after = self.made(EveryLoss, book, delay, sent, (*heard, (beat, report)))
            self.assertEqual(ground.doubt(), after.doubt(), why)
            self.assertEqual(ground.ends(), after.ends(), why)
        return told

    def test_one_and_two_reports_in_any_turn(self):
        runs = (
            (((0, 9, ()), (0, 2, (0,))), 1, [[cmd(0), cmd(1)], [], [cmd(0)], [back(1)]]),
            (((0, 9, ()), (0, 3, (0,))), 1, [[cmd(1)], [back(1)], [cmd(0), back(1)], [cmd(0)]]),
            (((2, 3, ()), (1, 4, (0,))), 2, [[cmd(0), cmd(1)], [back(0), cmd(1)], [], []]),
            (((1, 2, ()), (1, 9, ())), 1, [[cmd(1), back(0)], [cmd(0), back(1)], [cmd(0), cmd(1)]]),
        )
        for book, delay, sent in runs:
            for first in self.assert_same_for_each_report(book, delay, sent):
                self.assert_same_for_each_report(book, delay, sent, (first,))

    def test_some_of_many_reports_in_any_turn(self):
        chance = random.Random(7)
        for again in range(60):
            book = some_book(chance, chance.randint(1, 3), 5)
            delay = chance.randint(1, 2)
            sent = some_letters(chance, len(book), 6, 7)
            tried = self.made(EveryLoss, book, delay, sent)
            truth = chance.choice(sorted(tried.ways))
            beats = chance.sample(range(7), chance.randint(0, 4))
            self.assert_same_for_each_report(book, delay, sent, tuple((beat, truth[beat]) for beat in beats))


class MoreCommands(unittest.TestCase):
    def test_reports_of_now_against_every_state(self):
        chance = random.Random(11)
        for again in range(120):
            book = some_book(chance, chance.randint(3, 6), 8)
            sent = some_letters(chance, len(book), 9, 14)
            tried = EveryState(book, 1)
            early = {}
            early_at = chance.randint(1, 9)
            for letters in sent:
                tried.send(letters)
                tried.beat()
                if tried.beats == early_at:
                    early[early_at] = chance.choice(sorted(tried.states))
                    tried.hear(early[early_at])
                self.assertEqual(self.ground(book, sent[:tried.beats], early).doubt(), tried.doubt())
            for report in self.some_reports(chance, sorted(tried.states)):
                self.assert_heard_if_it_can_be(self.ground(book, sent, early), report, tried)

    def ground(self, book, sent, heard):
        ground = ground_with(book, 1, *sent)
        for beat, report in heard.items():
            ground.hear(beat, report)
        return ground

    def some_reports(self, chance, states):
        """Some that can be, and some that are like one that can be but for one word."""
        reports = chance.sample(states, min(12, len(states)))
        for again in range(12):
            report = list(chance.choice(states))
            report[chance.randrange(len(report))] = chance.choice(ALL)
            reports.append(tuple(report))
        return reports

    def assert_heard_if_it_can_be(self, ground, report, tried):
        if report in tried.states:
            ground.hear(ground.now(), report)
            self.assertEqual(ground.doubt(), [[word] for word in report])
        else:
            self.assertRaises(BadReport, ground.hear, ground.now(), report)
            self.assertEqual(ground.doubt(), tried.doubt())

    def test_eight_commands_with_many_letters_up_to_beat_200(self):
        book = tuple((10 * number, 20 * number + 40, tuple(range(number))) for number in range(8))
        ground, craft = Ground(book, 3), Craft(book)
        craft.beat([])
        for beat in range(1, 201):
            ground.send([cmd(number) for number in range(8)] + [back(number) for number in range(8)])
            ground.beat()
            state = craft.beat([cmd(number) for number in range(8) if beat >= 3])
        self.assertEqual(ground.doubt(), [["none", "done", "back", "late"]] * 8)
        self.assertEqual(ground.ends(), [None] * 8)
        self.assertEqual(state, ("done",) * 8)
        ground.hear(200, state)
        self.assertEqual(ground.doubt(), [["done"]] * 8)
        self.assertEqual(ground.ends(), ["done"] * 8)

    def test_eight_commands_with_a_report_of_every_word(self):
        waiting = ((0, 200, (1, 2)), (0, 40, (1,)), (0, 90, (0, 1, 2)))
        book = ((0, 100, ()), (0, 50, (0,)), (0, 60, (0,)), *waiting, LONG, LONG)
        every = [cmd(number) for number in range(6)]
        ground = ground_with(book, 1, *([every] * 150))
        self.assertRaises(BadReport, ground.hear, 150, ("done", "done", "late", "done", "late", "done", "none", "none"))
        ground.hear(150, ("done", "done", "late", "held", "late", "late", "none", "none"))
        self.assertEqual(ground.ends()[:3], ["done", "done", "not"])
        self.assertRaises(BadReport, ground.hear, 45, ("done", "done", "none", "none", "none", "late", "none", "none"))
        ground.hear(45, ("done", "none", "none", "held", "late", "held", "none", "none"))
        self.assertEqual(ground.doubt()[3], ["held"])


if __name__ == "__main__":
    unittest.main()
