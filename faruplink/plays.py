"""Plays: steps of a line, played, written and read."""

from faruplink.errors import BadCount, BadStep, BadText, NoCommand, NoLetter, NoWindow, Over
from faruplink.line import Line
from faruplink.words import is_within

STEP_WORDS = ("send", "call", "lose", "beat")
MOST_STEPS = 400
LAST_NUMBER = 99
REFUSED = "no"


def is_step(step):
    """Whether this has the form of a step."""
    if not isinstance(step, tuple) or len(step) != 2:
        return False
    word, number = step
    return word in STEP_WORDS and is_within(number, 0, LAST_NUMBER)


def look_over_steps(steps):
    """Refuse what are no steps, by the first that can't be."""
    for number, step in enumerate(steps):
        if number >= MOST_STEPS or not is_step(step):
            raise BadStep(number)


def told_by(line, step):
    """What the line tells of this step."""
    word, number = step
    if word == "send":
        return line.send(number)
    if word == "call":
        return line.call(number)
    if word == "lose":
        return line.lose(number)
    return line.beat(number)


def told_or_refused(line, step):
    """What the line tells of this step, "no" if it is refused."""
    try:
        return told_by(line, step)
    except (BadCount, NoCommand, NoLetter, NoWindow, Over):
        return REFUSED


def played(book, delay, windows, steps):
    """A list of what each step of a line tells, and the line behind them."""
    line = Line(book, delay, windows)
    look_over_steps(steps)
    told = [told_or_refused(line, step) for step in steps]
    return (told, line)


def written(steps):
    """These steps as a text."""
    look_over_steps(steps)
    return "\n".join([f"{word} {number}" for word, number in steps])


def writes_step(row):
    """Whether this row writes a step."""
    word, blank, figures = row.partition(" ")
    if word not in STEP_WORDS or len(figures) > 2:
        return False
    # Signs of other scripts are figures for Python, too; without them, all that are read are written the same.
    return figures.isascii() and figures.isdigit() and str(int(figures)) == figures


def read(text):
    """The steps that this text writes."""
    if not text:
        return []
    steps = []
    for number, row in enumerate(text.split("\n")):
        if number >= MOST_STEPS or not writes_step(row):
            raise BadText(number)
        word, figures = row.split(" ")
        steps.append((word, int(figures)))
    return steps
