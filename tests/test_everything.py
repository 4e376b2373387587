"""Point 1: what holds of everything."""

import ast
import builtins
import copy
import pathlib
import unittest

from faruplink.craft import Craft
from faruplink.doubt import Ground
from faruplink.errors import BadBook, BadCount, BadDelay, BadLetters, BadReport, BadStep, BadText, BadWindows
from faruplink.errors import LinkError, NoCommand, NoLetter, Over, TooMany
from faruplink.judging import judged
from faruplink.line import Line
from faruplink.losses import weak
from faruplink.plays import played, read, written
from faruplink.soonest import soonest, sturdy

PACKAGE = pathlib.Path(__file__).resolve().parent.parent / "faruplink"
BOOK = ((1, 3, ()), (0, 5, (0,)), (4, 4, ()))
HEARD = ([("cmd", 1)], [("cmd", 0), ("cmd", 2)], [("back", 2)], [], [("cmd", 2)], [])
TOLD = [
    ("none", "held", "none"),
    ("done", "done", "held"),
    ("done", "done", "back"),
    ("done", "done", "back"),
    ("done", "done", "back"),
    ("done", "done", "back"),
]
# What a ground hears of the same letters, a beat later.
TOLD_LATER = {2: ("done", "done", "held"), 4: ("done", "done", "back")}
# The language's L8, and `super`, which its L5 allows.
BUILTINS = """len range enumerate zip min max sum abs sorted reversed int str bool bytes list tuple dict set frozenset
isinstance ord repr any all divmod super Exception ValueError TypeError KeyError IndexError LookupError
ZeroDivisionError ArithmeticError OverflowError RuntimeError NotImplementedError NotImplemented""".split()


class HandedIn(unittest.TestCase):
    def test_a_list_of_letters_stays_as_it_was(self):
        craft = Craft(BOOK)
        for letters in HEARD:
            handed = list(letters)
            craft.beat(handed)
            self.assertEqual(handed, letters)

    def test_a_refused_list_of_letters_stays_as_it_was(self):
        handed = [("cmd", 0), ("cmd", 3)]
        self.assertRaises(BadLetters, Craft(BOOK).beat, handed)
        self.assertEqual(handed, [("cmd", 0), ("cmd", 3)])

    def test_a_list_of_letters_is_not_kept(self):
        craft = Craft(BOOK)
        told = []
        for letters in HEARD:
            handed = list(letters)
            told.append(craft.beat(handed))
            handed[:] = [("back", 0), ("back", 1)]
        self.assertEqual(told, TOLD)

    def test_one_list_handed_in_again_and_again(self):
        craft = Craft(((2, 9, ()),))
        handed = [("cmd", 0)]
        self.assertEqual([craft.beat(handed) for beat in range(3)], [("held",), ("held",), ("done",)])


class Told(unittest.TestCase):
    def test_what_was_told_stays_as_it_was(self):
        craft = Craft(BOOK)
        told = [craft.beat(letters) for letters in HEARD]
        self.assertEqual(told, TOLD)

    def test_crafts_of_one_book_know_nothing_of_each_other(self):
        crafts = [Craft(BOOK), Craft(BOOK)]
        for letters, state in zip(HEARD, TOLD):
            self.assertEqual(crafts[0].beat(letters), state)
            self.assertEqual(crafts[1].beat([]), ("none", "none", "none"))

    def test_the_same_is_told_of_the_same(self):
        for again in range(3):
            craft = Craft(BOOK)
            self.assertEqual([craft.beat(letters) for letters in HEARD], TOLD)


class Refused(unittest.TestCase):
    REFUSED = (
        [("cmd", 0), ("cmd", 1), ("cmd", 2), ("cmd", 3)],
        [("back", 0), ("back", 1), ("back", 2), ("cmd",)],
        [("back", -1), ("back", 0)],
        [()],
    )

    def test_refused_letters_change_nothing(self):
        for many in range(1, 4):
            craft = Craft(BOOK)
            for letters, state in zip(HEARD, TOLD):
                for refused in self.REFUSED * many:
                    self.assertRaises(BadLetters, craft.beat, refused)
                self.assertEqual(craft.beat(letters), state)

    def test_refused_beats_do_not_go_by(self):
        craft = Craft(((0, 0, ()),))
        for again in range(300):
            self.assertRaises(BadLetters, craft.beat, [("cmd", 1)])
        self.assertEqual(craft.beat([("cmd", 0)]), ("done",))
        for beat in range(200):
            self.assertEqual(craft.beat([]), ("done",))
        self.assertRaises(Over, craft.beat, [])

    def test_a_refused_book_does_not_spoil_the_next_one(self):
        for again in range(2):
            self.assertRaises(BadBook, Craft, ((3, 2, ()),))
            self.assertEqual(Craft(((3, 3, ()),)).beat([]), ("none",))


def all_of_ground(ground):
    return (ground.now(), ground.doubt(), ground.ends())


def all_of_line(line):
    return (line.has(), line.doubt(), line.ends(), line.now(), line.waits(), line.log())


def spoil(told):
    """Change all of what was told, as far as it can be."""
    for item in told:
        if isinstance(item, (list, tuple)):
            spoil(item)
    if isinstance(told, list):
        told[:] = ["spoilt", *told, ["spoilt"]]


class Grounds(unittest.TestCase):
    def steps(self):
        """A ground again at each step of the same run."""
        ground = Ground(BOOK, 1)
        yield ground
        for letters in HEARD:
            ground.send(list(letters))
            yield ground
            ground.beat()
            yield ground
            if ground.now() in (2, 4):
                ground.hear(ground.now(), TOLD_LATER[ground.now()])
                yield ground

    def test_letters_that_are_handed_in_are_neither_changed_nor_kept(self):
        ground = Ground(BOOK, 1)
        for letters in HEARD:
            handed = list(letters)
            ground.send(handed)
            self.assertEqual(handed, letters)
            spoil(handed)
            ground.beat()
        plain = Ground(BOOK, 1)
        for letters in HEARD:
            plain.send(letters)
            plain.beat()
        self.assertEqual(all_of_ground(ground), all_of_ground(plain))

    def test_a_refused_list_stays_as_it_was(self):
        handed = [("cmd", 0), ("cmd", 3)]
        self.assertRaises(BadLetters, Ground(BOOK, 1).send, handed)
        self.assertEqual(handed, [("cmd", 0), ("cmd", 3)])

    def test_the_same_is_told_when_asked_again_though_what_was_told_is_changed(self):
        for ground in self.steps():
            before = all_of_ground(ground)
            for again in range(2):
                spoil(ground.doubt())
                spoil(ground.ends())
                self.assertEqual(all_of_ground(ground), before)

    def test_what_was_told_is_changed_and_nothing_of_what_is_told_later(self):
        plain = [all_of_ground(ground) for ground in self.steps()]
        spoilt = []
        for ground in self.steps():
            spoilt.append(all_of_ground(ground))
            spoil(ground.doubt())
            spoil(ground.ends())
        self.assertEqual(spoilt, plain)

    def test_what_was_told_stays_as_it_was_while_beats_go_by(self):
        ground = Ground(BOOK, 1)
        told, ends = ground.doubt(), ground.ends()
        ground.send([("cmd", 0), ("cmd", 1), ("back", 2)])
        for beat in range(6):
            ground.beat()
        self.assertEqual((told, ends), ([["none"]] * 3, [None] * 3))

    def test_what_is_refused_changes_nothing(self):
        plain = [all_of_ground(ground) for ground in self.steps()]
        tried = []
        for ground in self.steps():
            self.assertRaises(BadLetters, ground.send, [("cmd", 0), ("cmd", 1), ("back", 2), ("cmd", 3)])
            self.assertRaises(BadReport, ground.hear, ground.now() + 1, ("none", "none", "none"))
            self.assertRaises(BadReport, ground.hear, -1, ("none", "none", "none"))
            self.assertRaises(BadReport, ground.hear, ground.now(), ("late", "late", "late"))
            self.assertRaises(BadReport, ground.hear, ground.now(), ("none", "none"))
            tried.append(all_of_ground(ground))
        self.assertEqual(tried, plain)

    def test_grounds_of_one_book_know_nothing_of_each_other(self):
        one, other = Ground(BOOK, 1), Ground(BOOK, 1)
        one.send([("cmd", 0)])
        one.beat()
        other.beat()
        self.assertEqual((one.doubt()[0], other.doubt()[0]), (["none", "done"], ["none"]))
        self.assertRaises(BadReport, other.hear, 1, ("done", "none", "none"))
        one.hear(1, ("done", "none", "none"))
        self.assertEqual(other.doubt()[0], ["none"])

    def test_a_refused_one_does_not_spoil_the_next_one(self):
        for again in range(2):
            self.assertRaises(BadDelay, Ground, BOOK, 0)
            self.assertEqual(all_of_ground(Ground(BOOK, 1)), (0, [["none"]] * 3, [None] * 3))


class Lines(unittest.TestCase):
    def steps(self):
        """A line again at each step of the same run, and what its beats told."""
        line = Line(BOOK, 1, ((0, 2), (3, 5)))
        told = []
        yield line, told
        for step, number in (
            (line.send, 0), (line.send, 1), (line.call, 2), (line.lose, 2), (line.beat, 0),
            (line.send, 2), (line.beat, 1), (line.beat, 0), (line.send, 2), (line.beat, 0),
            (line.beat, 0), (line.beat, 0), (line.beat, 0),
        ):
            told.append(step(number))
            yield line, told

    def all_told(self, line, told):
        return (all_of_line(line), [list(beats) for beats in told if beats is not None])

    def plain(self):
        return [self.all_told(line, told) for line, told in self.steps()]

    def test_the_run_hears_and_doubts_and_ends(self):
        told, beats = self.plain()[-1]
        self.assertEqual(beats, [[], [1], [], [3], [4], [5], [6]])
        self.assertEqual((told[0], told[2]), (("done", "done", "done"), ["done", "done", "done"]))

    def test_the_same_is_told_when_asked_again_though_what_was_told_is_changed(self):
        plain = self.plain()
        spoilt = []
        for line, told in self.steps():
            for again in range(2):
                spoil(line.doubt())
                spoil(line.ends())
                spoil(line.log())
            spoilt.append(self.all_told(line, told))
        self.assertEqual(spoilt, plain)

    def test_the_beats_that_beat_tells_may_be_changed(self):
        plain = [all_of_line(line) for line, told in self.steps()]
        spoilt = []
        for line, told in self.steps():
            if told and told[-1] is not None:
                spoil(told[-1])
            spoilt.append(all_of_line(line))
        self.assertEqual(spoilt, plain)

    def test_what_is_refused_changes_nothing(self):
        plain = self.plain()
        tried = []
        for line, told in self.steps():
            for step, number in ((line.send, 3), (line.call, -1), (line.lose, 9), (line.beat, 2), (line.beat, -1)):
                self.assertRaises(LinkError, step, number)
            if line.now() not in (0, 1, 3, 4):
                self.assertRaises(LinkError, line.send, 0)
                self.assertRaises(LinkError, line.call, 0)
            tried.append(self.all_told(line, told))
        self.assertEqual(tried, plain)

    def test_lines_of_one_book_know_nothing_of_each_other(self):
        one, other = (Line(BOOK, 1, ((0, 200),)) for again in range(2))
        one.send(0)
        for beat in range(3):
            one.beat(0)
            other.beat(0)
        self.assertEqual((one.has()[0], other.has()[0]), ("done", "none"))
        self.assertEqual((one.doubt()[0], other.doubt()[0]), (["done"], ["none"]))
        self.assertNotEqual(one.log(), other.log())

    def test_a_refused_one_does_not_spoil_the_next_one(self):
        for again in range(2):
            self.assertRaises(BadWindows, Line, BOOK, 1, ((0, 0),))
            self.assertEqual(Line(BOOK, 1, ((0, 1),)).log(), [])


class Judging(unittest.TestCase):
    def test_the_log_of_a_line_is_not_changed_and_the_same_is_told_again(self):
        for line, told in Lines().steps():
            log = line.log()
            for again in range(2):
                self.assertIsNone(judged(BOOK, 1, ((0, 2), (3, 5)), log))
                self.assertEqual(log, line.log())

    def test_a_refused_log_stays_and_spoils_nothing(self):
        log = [("send", 0), ("send", 3)]
        for again in range(2):
            self.assertRaises(BadLetters, judged, BOOK, 1, ((0, 1),), log)
            self.assertEqual(log, [("send", 0), ("send", 3)])
            self.assertIsNone(judged(BOOK, 1, ((0, 1),), log[:1]))


class PlansAndPlays(unittest.TestCase):
    WINDOWS = ((0, 2), (3, 12))
    PLANNED = ((1, 9, ()), (0, 9, (0,)), (4, 12, ()))
    SENDS = [(0, 0), (1, 1), (3, 0), (4, 2), (5, 1)]
    STEPS = [
        ("send", 0), ("send", 1), ("call", 2), ("lose", 2), ("beat", 0), ("lose", 7), ("send", 2), ("beat", 1),
        ("send", 9), ("beat", 0), ("beat", 5), ("send", 2), ("beat", 0), ("beat", 0), ("beat", 0),
    ]
    TEXT = "send 0\nbeat 1\nlose 99"

    def asked(self):
        """All that is told of the same."""
        told, line = played(BOOK, 1, self.WINDOWS, self.STEPS)
        return [
            soonest(self.PLANNED, 2, self.WINDOWS), sturdy(self.PLANNED, 2, self.WINDOWS, 1),
            weak(self.PLANNED, 2, self.SENDS, 3), weak(BOOK, 2, [], 3),
            told, list(all_of_line(line)), [written(self.STEPS)], read(self.TEXT), read(""),
        ]

    def test_the_same_is_told_when_asked_again_though_what_was_told_is_changed(self):
        plain = copy.deepcopy(self.asked())
        self.assertNotIn(None, plain)
        for again in range(3):
            told = self.asked()
            self.assertEqual(told, plain)
            spoil(told)

    def test_lists_that_are_handed_in_are_neither_changed_nor_kept(self):
        plain = copy.deepcopy(self.asked())
        sends, steps = list(self.SENDS), list(self.STEPS)
        lost = weak(self.PLANNED, 2, sends, 3)
        told, line = played(BOOK, 1, self.WINDOWS, steps)
        text = written(steps)
        self.assertEqual((sends, steps), (self.SENDS, self.STEPS))
        spoil(sends)
        spoil(steps)
        self.assertEqual([lost, told, list(all_of_line(line)), [text]], [plain[2], *plain[4:7]])

    def test_what_is_refused_changes_nothing(self):
        plain = copy.deepcopy(self.asked())
        for again in range(2):
            self.assertRaises(TooMany, soonest, ((0, 9, ()),) * 7, 2, self.WINDOWS)
            self.assertRaises(BadCount, sturdy, self.PLANNED, 2, self.WINDOWS, 4)
            self.assertRaises(BadLetters, weak, self.PLANNED, 2, [(0, 0), (0, 1)], 3)
            self.assertRaises(BadStep, played, BOOK, 1, self.WINDOWS, [*self.STEPS, ("beat", 100)])
            self.assertRaises(BadStep, written, [*self.STEPS, ("beat", 100)])
            self.assertRaises(BadText, read, self.TEXT + "\n")
            self.assertEqual(self.asked(), plain)


class LinesBesideOneAnother(unittest.TestCase):
    """Two lines of the same book, one played and one taken step by step, all that is told changed behind."""

    def step(self, line, word, number):
        try:
            return getattr(line, word)(number)
        except LinkError:
            return "no"

    def test_all_that_is_told_changed_and_asked_again(self):
        steps = PlansAndPlays.STEPS
        whole, plain = played(BOOK, 1, PlansAndPlays.WINDOWS, steps)
        line = Line(BOOK, 1, PlansAndPlays.WINDOWS)
        for many, (word, number) in enumerate(steps, 1):
            told, beside = played(BOOK, 1, PlansAndPlays.WINDOWS, steps[:many])
            answer = self.step(line, word, number)
            self.assertEqual((told, answer), (whole[:many], whole[many - 1]))
            self.assertEqual(all_of_line(line), all_of_line(beside))
            spoil([answer, told])
            spoil(all_of_line(line))
            spoil(all_of_line(beside))
            self.assertEqual(all_of_line(line), all_of_line(beside))
        self.assertEqual(all_of_line(line), all_of_line(plain))

    def test_one_goes_on_and_the_other_stays(self):
        steps = PlansAndPlays.STEPS
        told, one = played(BOOK, 1, PlansAndPlays.WINDOWS, steps)
        again, other = played(BOOK, 1, PlansAndPlays.WINDOWS, steps)
        before = copy.deepcopy(all_of_line(one))
        for word, number in steps:
            spoil([self.step(other, word, number)])
            spoil(all_of_line(other))
            self.assertEqual(all_of_line(one), before)
        self.assertEqual((told, other.now()), (again, 2 * one.now()))

    def test_a_line_that_was_told_refuses_and_stays(self):
        line = played(BOOK, 1, PlansAndPlays.WINDOWS, PlansAndPlays.STEPS)[1]
        before = copy.deepcopy(all_of_line(line))
        for step, number in ((line.send, 3), (line.call, -1), (line.lose, 9), (line.beat, 2), (line.beat, True)):
            self.assertRaises(LinkError, step, number)
            self.assertEqual(all_of_line(line), before)


class TrueAndFalseAreNoNumbers(unittest.TestCase):
    def test_wherever_a_number_is_handed_in(self):
        one, always = ((0, 9, ()),), ((0, 9),)
        for wrong in (True, False):
            line = Line(one * 2, 1, always)
            line.send(0)
            line.send(1)
            ground = Ground(one * 2, 1)
            for error, asked, *handed in (
                (BadBook, Craft, ((wrong, 9, ()),)), (BadBook, Craft, ((0, wrong, ()),)),
                (BadBook, Craft, (*one * 2, (0, 9, (wrong,)))),
                (BadLetters, Craft(one * 2).beat, [("cmd", wrong)]), (BadLetters, ground.send, [("back", wrong)]),
                (BadDelay, Ground, one, wrong), (BadDelay, Line, one, wrong, ()), (BadDelay, weak, one, wrong, [], 0),
                (BadReport, ground.hear, wrong, ("none", "none")),
                (BadWindows, Line, one, 1, ((wrong, 9),)), (BadWindows, soonest, one, 1, ((0, wrong),)),
                (NoCommand, line.send, wrong), (NoCommand, line.call, wrong), (NoLetter, line.lose, wrong),
                (BadCount, line.beat, wrong), (BadLetters, judged, one * 2, 1, always, [("send", wrong)]),
                (BadLetters, judged, one, 1, always, [("heard", wrong, ("none",))]),
                (BadCount, sturdy, one, 1, always, wrong), (BadCount, weak, one, 1, [], wrong),
                (BadLetters, weak, one, 1, [(wrong, 0)], 0), (BadLetters, weak, one * 2, 1, [(0, wrong)], 0),
                (BadStep, played, one, 1, always, [("beat", wrong)]), (BadStep, written, [("send", wrong)]),
            ):
                with self.subTest(asked=asked, handed=handed):
                    self.assertRaises(error, asked, *handed)


class NoClockChanceOrFiles(unittest.TestCase):
    def trees(self):
        files = sorted(PACKAGE.rglob("*.py"))
        self.assertTrue(files)
        return [(str(file), ast.parse(file.read_text())) for file in files]

    def test_only_the_package_itself_is_imported(self):
        for file, tree in self.trees():
            for node in ast.walk(tree):
                self.assertNotIsInstance(node, ast.Import, file)
                if isinstance(node, ast.ImportFrom):
                    self.assertEqual((node.level, node.module.split(".")[0]), (0, "faruplink"), file)

    def test_only_harmless_builtins_are_used(self):
        for file, tree in self.trees():
            used = {node.id for node in ast.walk(tree) if isinstance(node, ast.Name)}
            self.assertEqual(sorted(used & set(dir(builtins)) - set(BUILTINS)), [], file)


if __name__ == "__main__":
    unittest.main()
