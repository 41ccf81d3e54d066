"""Waking: the state that a row of words tells."""

from sleepwalk.errors import NoFit
from sleepwalk.reading import Reader
from sleepwalk.states import fits


def woken(program, words):
    """Give the state that words tell, its things numbered as they are met, or refuse them."""
    reader = Reader(words)
    end = reader.end()
    frames = reader.frames(end)
    things = {}
    # What a thing holds or keeps may lead to things that are met behind it.
    while len(things) < reader.many_met:
        things[len(things)] = reader.thing()
    reader.finish()
    state = (end, frames, things)
    if not fits(program, state):
        raise NoFit("the program has no such body or place")
    return state
