"""The craft: what it does of the commands that it hears."""

from faruplink.errors import Over
from faruplink.words import BACK, CMD, DONE, HELD, LAST_BEAT, LATE, NONE
from faruplink.words import first_state, look_over_book, look_over_letters


def word_heard(word, letter_word):
    """What a command of this word is by a letter."""
    if letter_word == CMD:
        return HELD if word == NONE else word
    return BACK if word in (NONE, HELD) else word


def word_of_held(command, words, beat):
    """What a held command is behind this beat."""
    when, until, wants = command
    if beat > until:
        return LATE
    if beat >= when and all(words[want] == DONE for want in wants):
        return DONE
    return HELD


def state_after(book, state, beat, letters):
    """The state behind this beat, from the state ahead of it and the letters that are heard."""
    words = list(state)
    for letter_word, number in letters:
        words[number] = word_heard(words[number], letter_word)
    # Wants have lesser numbers, so by numbers rising what is done at this beat counts at once.
    for number, command in enumerate(book):
        if words[number] == HELD:
            words[number] = word_of_held(command, words, beat)
    return tuple(words)


def all_done_by(book, heard):
    """The beat by which all commands are done that are first heard at these beats, by their numbers.

    It is None if one of them is never done, or never heard; none is called back.
    """
    dones = []
    for number, (when, until, wants) in enumerate(book):
        if number not in heard:
            return None
        beat = max([when, heard[number]] + [dones[want] for want in wants])
        # No until is greater than the last beat, so what is heard behind that is not done either.
        if beat > until:
            return None
        dones.append(beat)
    return max(dones)


class Craft:
    """A craft with a book, ahead of beat 0."""

    def __init__(self, book):
        look_over_book(book)
        self.book = book
        self.state = first_state(len(book))
        self.coming = 0

    def beat(self, letters):
        """Hear letters at the next beat, and tell the state behind it."""
        look_over_letters(letters, len(self.book))
        if self.coming > LAST_BEAT:
            raise Over(f"no beat is behind {LAST_BEAT}")
        self.state = state_after(self.book, self.state, self.coming, letters)
        self.coming += 1
        return self.state
