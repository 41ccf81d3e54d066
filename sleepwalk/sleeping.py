"""Sleeping: a state as a row of words."""

from sleepwalk.meeting import renumbered
from sleepwalk.states import is_done


def told(state):
    """Give the words that tell the state."""
    end, frames, things = renumbered(state)
    words = end_words(end)
    words.append(str(len(frames)))
    for body, place, own, stack in frames:
        words.extend([str(body), str(place)])
        words.extend(counted_words(own))
        words.extend(counted_words(stack))
    for number in range(len(things)):
        words.extend(thing_words(things[number]))
    return words


def end_words(end):
    if end is None:
        return ["runs"]
    if is_done(end):
        return ["done", value_word(end[1])]
    return ["stuck", end[1]]


def thing_words(thing):
    if thing[0] == "box":
        return ["box", value_word(thing[1])]
    return ["fun", str(thing[1])] + counted_words(thing[2])


def counted_words(values):
    """Give the number of the values, and then the values."""
    return [str(len(values))] + [value_word(value) for value in values]


def value_word(value):
    if isinstance(value, tuple):
        return f"@{value[1]}"
    return str(value)
