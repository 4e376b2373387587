"""Points 7 and 8: a line step by step, and what holds of it at each of them."""

import random
import unittest

from every_loss import EveryLoss, back, cmd
from faruplink.craft import Craft
from faruplink.doubt import Ground
from faruplink.errors import BadCount, LinkError, NoCommand, NoLetter, NoWindow, Over
from faruplink.line import Line

LONG = (0, 200, ())
ALWAYS = ((0, 200),)


def all_told(line):
    return (line.has(), line.doubt(), line.ends(), line.now(), line.waits(), line.log())


class Interface(unittest.TestCase):
    def test_each_method_stands_in_the_class_itself(self):
        for name in ("send", "call", "lose", "beat", "doubt", "ends", "log", "has", "waits", "now"):
            self.assertIn(name, vars(Line))

    def test_kinds_of_what_is_told(self):
        line = Line((LONG, LONG), 1, ALWAYS)
        self.assertIsNone(line.send(0))
        self.assertIsNone(line.call(1))
        self.assertIsNone(line.lose(0))
        for told in (line.beat(0), line.beat(1), line.doubt(), line.ends(), line.log()):
            self.assertIs(told.__class__, list)
        for told in (line.has(), line.waits()):
            self.assertIs(told.__class__, tuple)
        self.assertIs(line.now().__class__, int)

    def test_at_first(self):
        for many in range(1, 9):
            line = Line((LONG,) * many, 9, ())
            self.assertEqual(all_told(line), (("none",) * many, [["none"]] * many, [None] * many, 0, (0, 0), []))


class Sends(unittest.TestCase):
    def test_a_command(self):
        line = Line((LONG, LONG), 2, ALWAYS)
        line.send(1)
        self.assertEqual((line.waits(), line.log()), ((1, 0), [("send", 1)]))
        self.assertEqual((line.beat(0), line.has(), line.waits()), ([], ("none", "none"), (1, 1)))
        self.assertEqual((line.beat(0), line.has(), line.waits()), ([], ("none", "done"), (0, 2)))
        self.assertEqual(line.doubt(), [["none"], ["none", "done"]])
        self.assertEqual((line.beat(0), line.doubt()), ([1], [["none"], ["none", "done"]]))
        self.assertEqual((line.beat(0), line.doubt()), ([2], [["none"], ["done"]]))

    def test_a_call(self):
        line = Line((LONG, (5, 9, ())), 1, ALWAYS)
        line.send(1)
        line.beat(0)
        self.assertEqual(line.has(), ("none", "held"))
        line.call(1)
        line.call(0)
        line.beat(0)
        self.assertEqual(line.has(), ("back", "back"))
        self.assertEqual(line.doubt(), [["none", "back"], ["held", "back"]])
        entries = [("send", 1), ("beat",), ("call", 1), ("call", 0), ("beat",), ("heard", 1, ("none", "held"))]
        self.assertEqual(line.log(), entries)

    def test_letters_of_one_beat_in_their_turn(self):
        book = (LONG, (0, 200, (0,)))
        line = Line(book, 1, ALWAYS)
        for step, number in ((line.call, 0), (line.send, 0), (line.send, 1), (line.call, 1), (line.send, 1)):
            step(number)
        line.beat(1)
        self.assertEqual(line.has(), ("back", "back"))

    def test_no_such_command(self):
        for many in (1, 2, 8):
            line = Line((LONG,) * many, 1, ALWAYS)
            for number in (many, many + 1, 8, 9, 99, 200, -1, -many, -9, True, False):
                before = all_told(line)
                self.assertRaises(NoCommand, line.send, number)
                self.assertRaises(NoCommand, line.call, number)
                self.assertEqual(all_told(line), before)
            line.send(many - 1)
            line.call(0)

    def test_no_such_command_and_no_window(self):
        line = Line((LONG,), 1, ())
        for number in (1, -1):
            self.assertRaises(NoCommand, line.send, number)
            self.assertRaises(NoCommand, line.call, number)
        self.assertRaises(NoWindow, line.send, 0)
        self.assertRaises(NoWindow, line.call, 0)

    def test_a_windows_first_and_last_beat_and_the_beat_behind_it(self):
        line = Line((LONG,), 3, ((2, 4), (4, 5), (7, 8)))
        for beat in range(12):
            for step in (line.send, line.call):
                before = all_told(line)
                if beat in (2, 3, 4, 7):
                    step(0)
                else:
                    self.assertRaises(NoWindow, step, 0)
                    self.assertEqual(all_told(line), before)
            line.beat(0)

    def test_none_at_beat_200(self):
        line = Line((LONG,), 1, ALWAYS)
        for beat in range(200):
            line.send(0)
            line.beat(0)
        self.assertRaises(NoWindow, line.send, 0)


class Loses(unittest.TestCase):
    def line_with_letters(self):
        """Letters for 0, 1, 2, of beat 0, and 3, 4, of beat 1, in this turn."""
        line = Line((LONG,) * 5, 2, ALWAYS)
        for number in (0, 1, 2):
            line.send(number)
        line.beat(0)
        for number in (3, 4):
            line.send(number)
        return line

    def done(self, line):
        line.beat(0)
        line.beat(0)
        return [number for number, word in enumerate(line.has()) if word == "done"]

    def test_by_the_number_in_the_turn_in_which_they_were_sent(self):
        for number in range(5):
            line = self.line_with_letters()
            line.lose(number)
            self.assertEqual(line.waits(), (4, 1))
            self.assertEqual(self.done(line), [other for other in range(5) if other != number])

    def test_numbers_are_those_of_the_letters_that_still_fly(self):
        line = self.line_with_letters()
        line.lose(1)
        line.lose(1)
        line.lose(2)
        self.assertEqual(self.done(line), [0, 3])
        line = self.line_with_letters()
        line.beat(0)
        line.lose(0)
        line.beat(0)
        self.assertEqual(line.has(), ("done", "done", "done", "none", "done"))

    def test_all_of_them(self):
        line = self.line_with_letters()
        for left in (5, 4, 3, 2, 1):
            self.assertRaises(NoLetter, line.lose, left)
            line.lose(left - 1)
        self.assertRaises(NoLetter, line.lose, 0)
        self.assertEqual(line.waits(), (0, 1))
        self.assertEqual(self.done(line), [])

    def test_no_such_letter(self):
        line = self.line_with_letters()
        before = all_told(line)
        for number in (5, 6, 99, -1, -5, -6, True, False):
            self.assertRaises(NoLetter, line.lose, number)
            self.assertEqual(all_told(line), before)

    def test_none_ahead_of_a_send_and_none_behind_its_coming(self):
        line = Line((LONG,), 1, ALWAYS)
        self.assertRaises(NoLetter, line.lose, 0)
        line.send(0)
        line.beat(0)
        self.assertRaises(NoLetter, line.lose, 0)
        self.assertEqual(line.has(), ("done",))

    def test_reports_are_none_of_these_letters(self):
        line = Line((LONG,), 5, ALWAYS)
        for beat in range(3):
            line.beat(0)
        self.assertEqual(line.waits(), (0, 3))
        self.assertRaises(NoLetter, line.lose, 0)

    def test_the_ground_does_not_know(self):
        line, other = self.line_with_letters(), self.line_with_letters()
        line.lose(2)
        self.assertEqual((line.doubt(), line.ends(), line.log()), (other.doubt(), other.ends(), other.log()))
        line.beat(1)
        other.beat(1)
        self.assertEqual((line.doubt(), line.ends(), line.log()), (other.doubt(), other.ends(), other.log()))
        self.assertNotEqual(line.has(), other.has())

    def test_a_lost_call(self):
        line = Line((LONG,), 1, ALWAYS)
        line.call(0)
        line.send(0)
        line.lose(0)
        line.beat(0)
        self.assertEqual(line.has(), ("done",))


class Beats(unittest.TestCase):
    def test_reports_come_as_many_beats_later_as_the_delay_is(self):
        for delay in range(1, 10):
            line = Line((LONG,), delay, ())
            for beat in range(1, 25):
                self.assertEqual(line.beat(0), [beat - delay] if beat > delay else [])
                self.assertEqual(line.now(), beat)
                self.assertEqual(line.waits(), (0, min(beat, delay)))

    def test_reports_that_are_lost_do_not_come(self):
        for delay in range(1, 10):
            line = Line((LONG,), delay, ())
            for beat in range(1, 40):
                told = line.beat(1 if beat % 3 == 0 else 0)
                heard = beat - delay
                self.assertEqual(told, [heard] if heard >= 1 and heard % 3 else [])
                self.assertEqual(line.waits()[1], len([of for of in range(max(1, heard + 1), beat + 1) if of % 3]))

    def test_no_report_of_beat_0(self):
        line = Line((LONG,), 1, ())
        self.assertEqual(line.beat(0), [])
        self.assertEqual(line.log(), [("beat",)])

    def test_wrong_counts(self):
        line = Line((LONG,), 1, ALWAYS)
        line.send(0)
        before = all_told(line)
        for lost in (2, 3, -1, 99, True, False):
            self.assertRaises(BadCount, line.beat, lost)
            self.assertEqual(all_told(line), before)

    def test_up_to_200_and_a_wrong_count_ahead_of_over(self):
        line = Line((LONG, (200, 200, ())), 1, ALWAYS)
        line.send(1)
        for beat in range(1, 201):
            line.beat(0)
        self.assertEqual((line.now(), line.has()), (200, ("none", "done")))
        before = all_told(line)
        for again in range(2):
            for lost in (0, 1):
                self.assertRaises(Over, line.beat, lost)
            for lost in (2, -1):
                self.assertRaises(BadCount, line.beat, lost)
            self.assertEqual(all_told(line), before)

    def test_a_letter_comes_ahead_of_what_the_craft_does_at_this_beat(self):
        line = Line(((1, 1, ()),), 1, ALWAYS)
        line.send(0)
        line.beat(0)
        self.assertEqual(line.has(), ("done",))

    def test_letters_that_fly_longer_than_there_are_beats(self):
        line = Line((LONG,), 9, ALWAYS)
        for beat in range(192):
            line.beat(0)
        line.send(0)
        for beat in range(8):
            line.beat(0)
        self.assertEqual((line.now(), line.has(), line.waits()), (200, ("none",), (1, 9)))


class Logs(unittest.TestCase):
    def test_all_that_came_about_at_the_ground_in_turn(self):
        line = Line((LONG, LONG), 1, ((0, 2),))
        line.send(0)
        line.call(1)
        line.lose(1)
        line.beat(0)
        self.assertRaises(NoCommand, line.send, 2)
        line.send(1)
        line.beat(1)
        self.assertRaises(NoWindow, line.send, 0)
        self.assertRaises(BadCount, line.beat, 2)
        self.assertRaises(NoLetter, line.lose, 0)
        line.beat(0)
        line.beat(0)
        self.assertEqual(line.log(), [
            ("send", 0), ("call", 1), ("beat",), ("send", 1), ("beat",), ("heard", 1, ("done", "none")), ("beat",),
            ("beat",), ("heard", 3, ("done", "done")),
        ])

    def test_one_that_was_told_may_be_changed(self):
        line = Line((LONG,), 1, ALWAYS)
        line.send(0)
        told = line.log()
        told.append(("beat",))
        told[0] = ("call", 0)
        self.assertEqual(line.log(), [("send", 0)])
        line.beat(0)
        self.assertEqual(line.log(), [("send", 0), ("beat",)])
        self.assertEqual(told, [("call", 0), ("beat",)])


class Player:
    """A line that is played by chance, beside a model that knows only points 4 to 7."""

    def __init__(self, chance, book, delay, windows):
        self.chance = chance
        self.book = book
        self.delay = delay
        self.windows = windows
        self.line = Line(book, delay, windows)
        self.now = 0
        self.flying = []
        self.reports = []
        self.log = []
        self.craft = Craft(book)
        self.state = self.craft.beat([])
        self.sent = 0

    def send(self, most):
        number = self.chance.randrange(len(self.book))
        step, entry, letter = self.chance.choice((
            (self.line.send, "send", "cmd"), (self.line.send, "send", "cmd"), (self.line.call, "call", "back"),
        ))
        if not any(begin <= self.now < end for begin, end in self.windows) or self.sent >= most:
            return
        step(number)
        self.sent += 1
        self.log.append((entry, number))
        self.flying.append((self.now + self.delay, (letter, number)))

    def lose(self):
        if self.flying:
            number = self.chance.randrange(len(self.flying))
            self.line.lose(number)
            self.flying.pop(number)

    def beat(self, lost):
        told = self.line.beat(lost)
        self.now += 1
        self.log.append(("beat",))
        self.state = self.craft.beat([letter for beat, letter in self.flying if beat == self.now])
        self.flying = [(beat, letter) for beat, letter in self.flying if beat != self.now]
        if not lost:
            self.reports.append((self.now, self.state))
        heard = [report for report in self.reports if report[0] == self.now - self.delay]
        self.reports = [report for report in self.reports if report not in heard]
        self.log += [("heard", *report) for report in heard]
        return told, [beat for beat, report in heard]


def ground_of(kind, book, delay, log):
    """A ground, or one that tries every loss, to which a log came about."""
    ground = kind(book, delay)
    for word, *rest in log:
        if word == "beat":
            ground.beat()
        elif word == "heard":
            ground.hear(*rest)
        else:
            ground.send([(cmd if word == "send" else back)(*rest)])
    return ground


def some_player(chance):
    book = []
    for number in range(chance.randint(1, 4)):
        when = chance.randint(0, 6)
        wants = tuple(want for want in range(number) if chance.random() < 0.5)
        book.append((when, chance.randint(when, 14), wants))
    windows = chance.choice((((0, 9),), ((0, 2), (2, 3), (5, 8)), ((1, 4), (6, 7))))
    return Player(chance, tuple(book), chance.randint(1, 3), windows)


class ManyRuns(unittest.TestCase):
    def play(self, seed, step_done, beats=16, most=7):
        chance = random.Random(seed)
        player = some_player(chance)
        risk = chance.choice((0, 0.3, 0.7, 1))
        for beat in range(beats):
            for again in range(chance.randint(0, 3)):
                player.send(most)
                step_done(player)
            if chance.random() < 0.3:
                player.lose()
                step_done(player)
            told, expected = player.beat(1 if chance.random() < risk else 0)
            self.assertEqual(told, expected)
            step_done(player)
        return player

    def test_each_step_as_the_model_does_it(self):
        def step_done(player):
            line = player.line
            self.assertEqual(line.now(), player.now)
            self.assertEqual(line.has(), player.state)
            self.assertEqual(line.waits(), (len(player.flying), len(player.reports)))
            self.assertEqual(line.log(), player.log)

        for seed in range(120):
            self.play(seed, step_done, most=30)

    def test_doubt_and_ends_are_those_of_a_ground_to_which_the_log_came_about(self):
        def step_done(player):
            ground = ground_of(Ground, player.book, player.delay, player.log)
            self.assertEqual((player.line.doubt(), player.line.ends()), (ground.doubt(), ground.ends()))

        for seed in range(40):
            self.play(seed, step_done, most=30)

    def test_doubt_and_ends_against_every_loss(self):
        for seed in range(60):
            player = self.play(seed, lambda player: None)
            tried = ground_of(EveryLoss, player.book, player.delay, player.log)
            self.assertEqual((player.line.doubt(), player.line.ends()), (tried.doubt(), tried.ends()), seed)

    def test_has_is_always_among_what_doubt_tells(self):
        def step_done(player):
            for word, words in zip(player.line.has(), player.line.doubt()):
                self.assertIn(word, words)

        for seed in range(300):
            self.play(seed, step_done, most=30)

    def test_each_word_of_doubt_could_be_true_by_other_losses(self):
        for seed in range(40):
            player = self.play(seed, lambda player: None, most=6)
            seen = self.states_by_other_losses(player)
            for number, words in enumerate(player.line.doubt()):
                for word in words:
                    self.assertIn(word, [state[number] for state in seen], (seed, number))

    def states_by_other_losses(self, player):
        """The states of lines that send, and hear, the same, with every other loss of letters."""
        sends = [at for at, entry in enumerate(player.log) if entry[0] in ("send", "call")]
        seen = []
        for losses in range(1 << len(sends)):
            lost = [at for place, at in enumerate(sends) if losses >> place & 1]
            state = self.state_of_another_line(player, lost)
            if state is not None:
                seen.append(state)
        return seen

    def state_of_another_line(self, player, lost):
        """The state of a line whose letters at these places of the log are lost, None if it hears something else."""
        line = Line(player.book, player.delay, player.windows)
        heard = [entry[1] for entry in player.log if entry[0] == "heard"]
        for at, entry in enumerate(player.log):
            if entry[0] == "beat":
                line.beat(0 if line.now() + 1 in heard else 1)
            elif entry[0] != "heard":
                (line.send if entry[0] == "send" else line.call)(entry[1])
                if at in lost:
                    line.lose(line.waits()[0] - 1)
        return line.has() if line.log() == player.log else None

    def test_what_ends_tells_stays_and_comes_true(self):
        sure = {}

        def step_done(player):
            if player.now == 0:
                sure.clear()
            for number, end in enumerate(player.line.ends()):
                self.assertIn(sure.get(number), (None, end))
                sure[number] = end
                if end == "done":
                    self.assertEqual(player.line.has()[number], "done")
                if end == "not":
                    self.assertNotEqual(player.line.has()[number], "done")

        for seed in range(300):
            sure.clear()
            self.play(seed, step_done, beats=20, most=30)

    def test_a_beat_behind_its_until_nothing_is_held(self):
        def step_done(player):
            for (when, until, wants), word, words in zip(player.book, player.line.has(), player.line.doubt()):
                if player.now > until:
                    self.assertNotEqual(word, "held")
                    self.assertNotIn("held", words)

        for seed in range(200):
            self.play(seed, step_done, beats=18, most=30)

    def test_with_all_reports_heard_and_nothing_under_way_no_doubt(self):
        for seed in range(200):
            chance = random.Random(seed)
            player = some_player(chance)
            for beat in range(10):
                for again in range(chance.randint(0, 3)):
                    player.send(30)
                if chance.random() < 0.3:
                    player.lose()
                player.beat(0)
            quiet = 0
            while quiet < player.delay + 1:
                quiet = 0 if player.flying else quiet + 1
                player.beat(0)
            self.assertEqual(player.line.doubt(), [[word] for word in player.line.has()])

    def test_what_is_refused_changes_nothing(self):
        def step_done(player):
            line = player.line
            before = all_told(line)
            tries = [(line.send, 8), (line.call, -1), (line.lose, len(player.flying)), (line.beat, 2)]
            if not any(begin <= player.now < end for begin, end in player.windows):
                tries += [(line.send, 0), (line.call, 0)]
            for step, number in tries:
                self.assertRaises(LinkError, step, number)
                self.assertEqual(all_told(line), before)

        for seed in range(40):
            self.play(seed, step_done)


if __name__ == "__main__":
    unittest.main()
