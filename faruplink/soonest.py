"""Plans: the order of sends by which all commands are done the soonest."""

from faruplink.craft import all_done_by
from faruplink.errors import TooMany
from faruplink.words import look_over_book, look_over_delay, look_over_lost, look_over_windows

MOST_PLANNED = 6


def beats_in(windows):
    """All beats at which a window is open, rising."""
    return [beat for begin, end in windows for beat in range(begin, end)]


def orders_of(numbers):
    """All orders of rising numbers, as lists ascend."""
    if not numbers:
        return [[]]
    orders = []
    for first in numbers:
        others = [number for number in numbers if number != first]
        orders.extend([[first, *rest] for rest in orders_of(others)])
    return orders


def last_heard(order, delay, beats, copies):
    """The beats at which commands are heard, by their numbers, if only the last of the letters of each is."""
    return {number: beats[(place + 1) * copies - 1] + delay for place, number in enumerate(order)}


def sends_of(order, beats, copies):
    """The sends of commands in this order, so many letters of each."""
    numbers = [number for number in order for copy in range(copies)]
    return list(zip(beats, numbers))


def least_plan(book, delay, beats, copies):
    """The beat by which all are done whichever letters but one of each are lost, and the sends in the least order."""
    for order in orders_of(list(range(len(book)))):
        # All are done as late as the one command that holds them up the longest: to lose all but the last letter
        # of that one is the worst that can be, and to lose those of the others besides makes it no later.
        beat = all_done_by(book, last_heard(order, delay, beats, copies))
        # In any order the last letter comes at the same beat: if all are done, they are as soon as by any other.
        # And as the orders ascend, the first is the least.
        if beat is not None:
            return (beat, sends_of(order, beats, copies))
    return None


def soonest(book, delay, windows):
    """The soonest beat by which all commands are done if nothing is lost, and the sends for it; None for none."""
    return sturdy(book, delay, windows, 0)


def sturdy(book, delay, windows, lost):
    """The soonest beat by which all are done whichever so many letters are lost, and the sends; None for none."""
    look_over_book(book)
    look_over_delay(delay)
    look_over_windows(windows)
    look_over_lost(lost)
    if len(book) > MOST_PLANNED:
        raise TooMany(f"at most {MOST_PLANNED} commands are planned")
    copies = lost + 1
    beats = beats_in(windows)
    if len(beats) < len(book) * copies:
        return None
    return least_plan(book, delay, beats, copies)
