"""Point 13: steps, written and read."""

import random
import unittest

from faruplink.errors import BadStep, BadText
from faruplink.plays import read, written
from test_plays import NO_STEPS

WORDS = ("send", "call", "lose", "beat")
STEPS = [(word, number) for word in WORDS for number in range(100)]
FINE = ["send 0", "beat 1", "lose 10", "call 99"]
READ = [("send", 0), ("beat", 1), ("lose", 10), ("call", 99)]
NO_ROWS = (
    "", " ", "  ", "send", "send ", " send", "0", " 0", "99", "send0", "0 send",
    " send 0", "send 0 ", "send  0", "send   0", "  send 0", "send 0  ", " send 0 ", "send 1 0", "send 0 0",
    "send 00", "send 01", "send 09", "beat 00", "send 000", "send 001", "send 100", "send 010", "send 999", "beat 1000",
    "send -0", "send -1", "send +0", "send +1", "send -", "send +", "call -9", "send 1-", "send - 1",
    "send x", "send 1x", "send x1", "send 1.", "send .1", "send 1_", "send 1_0", "send _1", "send 0x", "send ,",
    "send 1e1",
    "Send 0", "SEND 0", "sends 0", "sen 0", "heard 0", "cmd 0", "back 0", "no 0", "none 0", "(send 0)", "'send' 0",
    "send,0", "send:0", "send-0", "send 0;", "send 0,", "send(0)", "beat", "beat 0 1", "sendsend 0", "send send 0",
    "send call 0", "send beat", "~ 0", "~", "send 0~", "sendcall 0", "send\\n0", "#send 0",
)


class Interface(unittest.TestCase):
    def test_a_text_and_a_list_of_tuples(self):
        self.assertIs(written(READ).__class__, str)
        self.assertIs(written([]).__class__, str)
        self.assertIs(read("").__class__, list)
        self.assertIs(read("send 0").__class__, list)
        self.assertEqual([part.__class__ for part in (*read("send 0"), *read("send 0")[0])], [tuple, str, int])


class Written(unittest.TestCase):
    def test_none(self):
        self.assertEqual(written([]), "")

    def test_every_step(self):
        for word, number in STEPS:
            self.assertEqual(written([(word, number)]), word + " " + str(number))

    def test_rows_with_a_line_end_between(self):
        self.assertEqual(written(READ), "send 0\nbeat 1\nlose 10\ncall 99")
        self.assertEqual(written([("beat", 0)] * 3), "beat 0\nbeat 0\nbeat 0")

    def test_400_and_401(self):
        self.assertEqual(written(STEPS), "\n".join(f"{word} {number}" for word, number in STEPS))
        for more in (1, 2, 50):
            self.assert_refused([("beat", 0)] * (400 + more), 400)
            self.assert_refused([("beat", 0)] * 400 + [()] * more, 400)
            self.assert_refused([("beat", 0)] * 399 + [()] * (1 + more), 399)
            self.assert_refused([()] + [("beat", 0)] * (399 + more), 0)

    def assert_refused(self, steps, number):
        handed = list(steps)
        with self.assertRaises(BadStep, msg=steps) as caught:
            written(handed)
        self.assertEqual(caught.exception.number, number, steps)
        self.assertEqual(handed, steps)

    def test_steps_that_are_none_at_each_place(self):
        for wrong in NO_STEPS:
            for at in range(5):
                self.assert_refused([*READ[:at], wrong, *READ[at:]], at)

    def test_two_of_them(self):
        for wrong in NO_STEPS:
            for other in NO_STEPS:
                self.assert_refused([("send", 0), wrong, other], 1)

    def test_the_list_that_is_handed_in_stays(self):
        handed = list(READ)
        for again in range(2):
            self.assertEqual(written(handed), "\n".join(FINE))
            self.assertEqual(handed, READ)


class ReadRows(unittest.TestCase):
    def test_the_empty_text(self):
        self.assertEqual(read(""), [])

    def test_every_step(self):
        for word, number in STEPS:
            self.assertEqual(read(word + " " + str(number)), [(word, number)])

    def test_rows(self):
        for many in range(1, 5):
            self.assertEqual(read("\n".join(FINE[:many])), READ[:many])

    def test_what_is_written_is_read_to_the_same(self):
        self.assertEqual(read(written([])), [])
        self.assertEqual(read(written(STEPS)), STEPS)
        for seed in range(100):
            chance = random.Random(seed)
            steps = [chance.choice(STEPS) for again in range(chance.randrange(401))]
            self.assertEqual(read(written(steps)), steps)

    def test_what_is_read_is_written_the_same(self):
        text = "\n".join(FINE)
        self.assertEqual(written(read(text)), text)

    def test_what_is_told_may_be_changed(self):
        for text in ("", "\n".join(FINE)):
            plain = read(text)
            for again in range(2):
                told = read(text)
                self.assertEqual(told, plain)
                told[:] = ["spoilt"]


class NoRows(unittest.TestCase):
    def assert_refused(self, rows, row):
        with self.assertRaises(BadText, msg=rows) as caught:
            read("\n".join(rows))
        self.assertEqual(caught.exception.row, row, rows)

    def test_at_each_place(self):
        for wrong in NO_ROWS:
            for at in range(5):
                self.assert_refused([*FINE[:at], wrong, *FINE[at:]], at)

    def test_alone(self):
        for wrong in NO_ROWS:
            if wrong:
                self.assert_refused([wrong], 0)

    def test_two_of_them(self):
        for wrong in NO_ROWS:
            for other in NO_ROWS:
                self.assert_refused(["beat 0", wrong, other], 1)
                self.assert_refused([wrong, "beat 0", other], 0)

    def test_empty_rows(self):
        self.assert_refused(["", ""], 0)
        self.assert_refused(["", "send 0"], 0)
        self.assert_refused(["send 0", ""], 1)
        self.assert_refused(["send 0", "", "beat 0"], 1)
        self.assert_refused(["send 0", "beat 0", "", ""], 2)
        self.assert_refused(["", "", ""], 0)

    def test_every_sign_at_every_place(self):
        signs = [chr(code) for code in range(32, 127) if chr(code) != "%"]
        for row in ("send 0", "beat 10"):
            for at in range(len(row) + 1):
                for sign in signs:
                    for other in (row[:at] + sign + row[at:], row[:at] + sign + row[at + 1:], row[:at] + row[at + 1:]):
                        word, blank, figures = other.partition(" ")
                        if word in WORDS and figures in [str(number) for number in range(100)]:
                            self.assertEqual(read(other), [(word, int(figures))])
                        else:
                            self.assert_refused([other], 0)

    def test_many_figures(self):
        for many in (3, 4, 10, 5000):
            for figure in "019":
                self.assert_refused(["send 0", "send " + figure * many], 1)

    def test_signs_of_other_scripts(self):
        for figures in ("\u00b2", "\u0663", "\uff11", "1\u0661", "\u00a01"):
            self.assert_refused(["beat " + figures], 0)
        for end in ("\r", "\x0b", "\x0c", "\x1c", "\x85", "\u2028"):
            self.assert_refused(["send 0", "send 0" + end + "beat 0"], 1)
            self.assert_refused(["send 0", "send 0" + end], 1)

    def test_400_and_401(self):
        self.assertEqual(read("\n".join(["beat 10"] * 400)), [("beat", 10)] * 400)
        for more in (1, 2, 50):
            self.assert_refused(["beat 0"] * (400 + more), 400)
            self.assert_refused(["beat 0"] * 400 + [""] * more, 400)
            self.assert_refused(["beat 0"] * 400 + ["what"] * more, 400)
            self.assert_refused(["beat 0"] * 399 + [""] * (1 + more), 399)
            self.assert_refused(["beat 0"] * 7 + [""] + ["beat 0"] * (392 + more), 7)
            self.assert_refused([""] * (400 + more), 0)


if __name__ == "__main__":
    unittest.main()
