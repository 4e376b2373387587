"""Losses: which letters' loss would keep a command from being done."""

from faruplink.craft import all_done_by
from faruplink.errors import BadLetters, TooMany
from faruplink.words import is_within, look_over_book, look_over_delay, look_over_lost

MOST_SENDS = 12
LAST_SEND = 199


def is_send(send, least, many):
    """Whether this is a send of one of so many commands, at the least beat or later."""
    if not isinstance(send, tuple) or len(send) != 2:
        return False
    beat, number = send
    return is_within(beat, least, LAST_SEND) and is_within(number, 0, many - 1)


def look_over_sends(sends, many):
    """Refuse what are no sends of so many commands, by the first that can't be."""
    least = 0
    for at, send in enumerate(sends):
        if not is_send(send, least, many):
            raise BadLetters(at)
        least = send[0] + 1


def rising_lists(least, many, length):
    """All rising lists of this length of numbers from the least on up to ahead of `many`, as lists ascend."""
    if length == 0:
        return [[]]
    lists = []
    for first in range(least, many):
        lists.extend([[first, *rest] for rest in rising_lists(first + 1, many, length - 1)])
    return lists


def first_heard(sends, delay, lost):
    """The beats at which commands are first heard, by their numbers, if the sends with these numbers are lost."""
    heard = {}
    for at, (beat, number) in enumerate(sends):
        if at not in lost:
            heard.setdefault(number, beat + delay)
    return heard


def weak(book, delay, sends, most):
    """The numbers of the fewest sends, at most so many, by whose loss some command is never done; None for none."""
    look_over_book(book)
    look_over_delay(delay)
    look_over_sends(sends, len(book))
    look_over_lost(most)
    if len(sends) > MOST_SENDS:
        raise TooMany(f"at most {MOST_SENDS} sends are looked at")
    # The fewest come first, and of as many the least.
    for length in range(most + 1):
        for lost in rising_lists(0, len(sends), length):
            if all_done_by(book, first_heard(sends, delay, lost)) is None:
                return lost
    return None
