"""Point 1: what holds of everything."""

import ast
import builtins
import pathlib
import unittest

from faruplink.craft import Craft
from faruplink.errors import BadBook, BadLetters, Over

PACKAGE = pathlib.Path(__file__).resolve().parent.parent / "faruplink"
BOOK = ((1, 3, ()), (0, 5, (0,)), (4, 4, ()))
HEARD = ([("cmd", 1)], [("cmd", 0), ("cmd", 2)], [("back", 2)], [], [("cmd", 2)], [])
TOLD = [
    ("none", "held", "none"),
    ("done", "done", "held"),
    ("done", "done", "back"),
    ("done", "done", "back"),
    ("done", "done", "back"),
    ("done", "done", "back"),
]
# The language's L8, and `super`, which its L5 allows.
BUILTINS = """len range enumerate zip min max sum abs sorted reversed int str bool bytes list tuple dict set frozenset
isinstance ord repr any all divmod super Exception ValueError TypeError KeyError IndexError LookupError
ZeroDivisionError ArithmeticError OverflowError RuntimeError NotImplementedError NotImplemented""".split()


class HandedIn(unittest.TestCase):
    def test_a_list_of_letters_stays_as_it_was(self):
        craft = Craft(BOOK)
        for letters in HEARD:
            handed = list(letters)
            craft.beat(handed)
            self.assertEqual(handed, letters)

    def test_a_refused_list_of_letters_stays_as_it_was(self):
        handed = [("cmd", 0), ("cmd", 3)]
        self.assertRaises(BadLetters, Craft(BOOK).beat, handed)
        self.assertEqual(handed, [("cmd", 0), ("cmd", 3)])

    def test_a_list_of_letters_is_not_kept(self):
        craft = Craft(BOOK)
        told = []
        for letters in HEARD:
            handed = list(letters)
            told.append(craft.beat(handed))
            handed[:] = [("back", 0), ("back", 1)]
        self.assertEqual(told, TOLD)

    def test_one_list_handed_in_again_and_again(self):
        craft = Craft(((2, 9, ()),))
        handed = [("cmd", 0)]
        self.assertEqual([craft.beat(handed) for beat in range(3)], [("held",), ("held",), ("done",)])


class Told(unittest.TestCase):
    def test_what_was_told_stays_as_it_was(self):
        craft = Craft(BOOK)
        told = [craft.beat(letters) for letters in HEARD]
        self.assertEqual(told, TOLD)

    def test_crafts_of_one_book_know_nothing_of_each_other(self):
        crafts = [Craft(BOOK), Craft(BOOK)]
        for letters, state in zip(HEARD, TOLD):
            self.assertEqual(crafts[0].beat(letters), state)
            self.assertEqual(crafts[1].beat([]), ("none", "none", "none"))

    def test_the_same_is_told_of_the_same(self):
        for again in range(3):
            craft = Craft(BOOK)
            self.assertEqual([craft.beat(letters) for letters in HEARD], TOLD)


class Refused(unittest.TestCase):
    REFUSED = (
        [("cmd", 0), ("cmd", 1), ("cmd", 2), ("cmd", 3)],
        [("back", 0), ("back", 1), ("back", 2), ("cmd",)],
        [("back", -1), ("back", 0)],
        [()],
    )

    def test_refused_letters_change_nothing(self):
        for many in range(1, 4):
            craft = Craft(BOOK)
            for letters, state in zip(HEARD, TOLD):
                for refused in self.REFUSED * many:
                    self.assertRaises(BadLetters, craft.beat, refused)
                self.assertEqual(craft.beat(letters), state)

    def test_refused_beats_do_not_go_by(self):
        craft = Craft(((0, 0, ()),))
        for again in range(300):
            self.assertRaises(BadLetters, craft.beat, [("cmd", 1)])
        self.assertEqual(craft.beat([("cmd", 0)]), ("done",))
        for beat in range(200):
            self.assertEqual(craft.beat([]), ("done",))
        self.assertRaises(Over, craft.beat, [])

    def test_a_refused_book_does_not_spoil_the_next_one(self):
        for again in range(2):
            self.assertRaises(BadBook, Craft, ((3, 2, ()),))
            self.assertEqual(Craft(((3, 3, ()),)).beat([]), ("none",))


class NoClockChanceOrFiles(unittest.TestCase):
    def trees(self):
        files = sorted(PACKAGE.rglob("*.py"))
        self.assertTrue(files)
        return [(str(file), ast.parse(file.read_text())) for file in files]

    def test_only_the_package_itself_is_imported(self):
        for file, tree in self.trees():
            for node in ast.walk(tree):
                self.assertNotIsInstance(node, ast.Import, file)
                if isinstance(node, ast.ImportFrom):
                    self.assertEqual((node.level, node.module.split(".")[0]), (0, "faruplink"), file)

    def test_only_harmless_builtins_are_used(self):
        for file, tree in self.trees():
            used = {node.id for node in ast.walk(tree) if isinstance(node, ast.Name)}
            self.assertEqual(sorted(used & set(dir(builtins)) - set(BUILTINS)), [], file)


if __name__ == "__main__":
    unittest.main()
