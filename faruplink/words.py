"""What the modules share: the words of the document, and the looking over of what is handed in."""

from faruplink.errors import BadBook, BadCount, BadDelay, BadLetters, BadWindows

NONE = "none"
HELD = "held"
DONE = "done"
BACK = "back"
LATE = "late"
WORDS = ("none", "held", "done", "back", "late")

# A letter's "back" calls a command back; a state's BACK is what comes of it.
CMD = "cmd"
CALL_BACK = "back"

LAST_BEAT = 200
MOST_COMMANDS = 8
MOST_DELAY = 9
MOST_LOST = 3


def is_number(value):
    """Whether this is a whole number."""
    # For Python, True and False are integers; for the document they are no numbers.
    return isinstance(value, int) and not isinstance(value, bool)


def is_within(value, low, high):
    """Whether this is a number from low to high."""
    return is_number(value) and low <= value <= high


def are_wants(wants, number):
    """Whether this is a rising tuple of numbers that are less than the command's own number."""
    if not isinstance(wants, tuple):
        return False
    least = 0
    for want in wants:
        if not is_within(want, least, number - 1):
            return False
        least = want + 1
    return True


def is_command(command, number):
    """Whether this can be the command with this number."""
    if not isinstance(command, tuple) or len(command) != 3:
        return False
    when, until, wants = command
    if not is_within(when, 0, LAST_BEAT) or not is_within(until, when, LAST_BEAT):
        return False
    return are_wants(wants, number)


def look_over_book(book):
    """Refuse what is no book, by the first command that can't be."""
    if not isinstance(book, tuple) or not book:
        raise BadBook(0)
    for number, command in enumerate(book):
        if number >= MOST_COMMANDS or not is_command(command, number):
            raise BadBook(number)


def look_over_delay(delay):
    """Refuse what is no delay."""
    if not is_within(delay, 1, MOST_DELAY):
        raise BadDelay(f"a delay is 1 to {MOST_DELAY} beats")


def is_window(window, least):
    """Whether this is a window that begins at the least beat or later."""
    if not isinstance(window, tuple) or len(window) != 2:
        return False
    begin, end = window
    return is_within(begin, least, LAST_BEAT) and is_within(end, begin + 1, LAST_BEAT)


def look_over_windows(windows):
    """Refuse what are no windows."""
    if not isinstance(windows, tuple):
        raise BadWindows("windows are a tuple")
    least = 0
    for number, window in enumerate(windows):
        if not is_window(window, least):
            raise BadWindows(f"window {number} can't be")
        least = window[1]


def is_open(windows, beat):
    """Whether one of the windows is open at this beat."""
    return any(begin <= beat < end for begin, end in windows)


def is_letter(letter, many):
    """Whether this is a letter to a craft with so many commands."""
    if not isinstance(letter, tuple) or len(letter) != 2:
        return False
    word, number = letter
    return word in (CMD, CALL_BACK) and is_within(number, 0, many - 1)


def look_over_letters(letters, many):
    """Refuse letters to a craft with so many commands, by the first that is none."""
    for at, letter in enumerate(letters):
        if not is_letter(letter, many):
            raise BadLetters(at)


def look_over_lost(lost):
    """Refuse what is no number of letters of which the loss is looked at."""
    if not is_within(lost, 0, MOST_LOST):
        raise BadCount(f"0 to {MOST_LOST} letters may be lost")


def first_state(many):
    """The state of a craft that has heard nothing."""
    return (NONE,) * many


def is_report(report, many):
    """Whether this has the form of a report of so many commands."""
    return isinstance(report, tuple) and len(report) == many and all(word in WORDS for word in report)
