"""Reading: from words back to ends, frames, things and values."""

from sleepwalk.errors import NoWords
from sleepwalk.hindrances import STUCK_WORDS
from sleepwalk.limits import MOST_FIGURES, MOST_FRAMES, MOST_KEPT, MOST_NUMBER, MOST_VALUES
from sleepwalk.states import is_done

FIGURES = "0123456789"


class Reader:
    """Goes over words from the first to the last, and refuses those that tell no state."""

    def __init__(self, words):
        self.words = words
        self.at = 0
        self.many_met = 0

    def word(self):
        if self.at >= len(self.words):
            raise NoWords("there are too few words")
        self.at += 1
        return self.words[self.at - 1]

    def finish(self):
        if self.at < len(self.words):
            raise NoWords("there are too many words")

    def end(self):
        word = self.word()
        if word == "runs":
            return None
        if word == "done":
            return ("done", self.value())
        if word != "stuck":
            raise NoWords("a state is runs, done or stuck")
        why = self.word()
        if why not in STUCK_WORDS:
            raise NoWords("no state is stuck by this word")
        return ("stuck", why)

    def frames(self, end):
        """Read the frames of a state that has this end."""
        many = self.size(MOST_FRAMES)
        if is_done(end) != (many == 0):
            raise NoWords("a state that is done has no frame, any other has one at least")
        return [self.frame() for _ in range(many)]

    def frame(self):
        body = self.number_from_nought()
        place = self.number_from_nought()
        own = self.row(MOST_VALUES)
        stack = self.row(MOST_VALUES)
        return (body, place, own, stack)

    def thing(self):
        word = self.word()
        if word == "box":
            return ("box", self.value())
        if word != "fun":
            raise NoWords("a thing is a box or a fun")
        body = self.number_from_nought()
        return ("fun", body, self.row(MOST_KEPT))

    def row(self, most):
        """Read how many values there are, and these."""
        return tuple([self.value() for _ in range(self.size(most))])

    def size(self, most):
        many = self.number_from_nought()
        if many > most:
            raise NoWords(f"there may be at most {most} here")
        return many

    def value(self):
        word = self.word()
        if word.startswith("@"):
            return ("at", self.thing_number(word[1:]))
        number = number_told(word)
        if abs(number) > MOST_NUMBER:
            raise NoWords("a value is a number that is too great")
        return number

    def thing_number(self, figures):
        number = number_told(figures)
        if not 0 <= number <= self.many_met:
            raise NoWords("a thing that is met first has the next number")
        if number == self.many_met:
            self.many_met += 1
        return number

    def number_from_nought(self):
        """Read a count, the number of a body, or a place.

        How great a body's number or a place may be depends on the program. Below 0 it is in no
        state of any program, so that is refused here, ahead of the question if the state fits.
        """
        number = number_told(self.word())
        if number < 0:
            raise NoWords("a count, a body's number or a place is 0 at least")
        return number


def number_told(text):
    """Give the number that a text tells, or refuse it."""
    figures = text[1:] if text.startswith("-") else text
    # Python itself would also take blanks, a plus, underlines and the figures of other scripts.
    if figures == "" or not all(sign in FIGURES for sign in figures):
        raise NoWords("a number is told by figures")
    if len(figures) > MOST_FIGURES:
        raise NoWords(f"a number has at most {MOST_FIGURES} figures")
    number = int(text)
    # A nought ahead, or a minus ahead of 0, is lost on the way there and back.
    if str(number) != text:
        raise NoWords("a number is told without a nought ahead")
    return number
