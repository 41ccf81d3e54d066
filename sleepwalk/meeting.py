"""Meeting: in which order the values of a state lead to its things, and which states are alike."""

from sleepwalk.states import is_done


def met(state):
    """Give the numbers of the things that are met, in the order in which they are met."""
    things = state[2]
    values = outer_values(state)
    found = {}
    at = 0
    while at < len(values):
        value = values[at]
        if isinstance(value, tuple) and value[1] not in found:
            found[value[1]] = True
            # Behind all others, so that one thing's values come ahead of the next one's.
            values.extend(inner_values(things[value[1]]))
        at += 1
    return list(found)


def outer_values(state):
    """Give a new list of the values that stand in the end and in the frames, in their order."""
    end, frames = state[:2]
    values = [end[1]] if is_done(end) else []
    for frame in frames:
        own, stack = frame[2:]
        values.extend(own)
        values.extend(stack)
    return values


def inner_values(thing):
    """Give what a box holds, or a function keeps."""
    if thing[0] == "box":
        return (thing[1],)
    return thing[2]


def matched(one, other):
    """Give the matching of two states, from numbers met in the one to those of the other.

    It is None where they are not alike.
    """
    if renumbered(one) != renumbered(other):
        return None
    # Things that match are met in the same turn, so there is no other matching.
    return dict(zip(met(one), met(other)))


def renumbered(state):
    """Give the state with its things numbered as they are met, 0 first.

    Things that are not met are left out, so states that are alike give the same one.
    """
    end, frames, things = state
    numbers = {number: at for at, number in enumerate(met(state))}
    return (
        ("done", changed(end[1], numbers)) if is_done(end) else end,
        [(body, place, all_changed(own, numbers), all_changed(stack, numbers))
         for body, place, own, stack in frames],
        {at: changed_thing(things[number], numbers) for number, at in numbers.items()},
    )


def changed(value, numbers):
    """Give the value with the number of its thing changed, if it leads to one."""
    if isinstance(value, tuple):
        return ("at", numbers[value[1]])
    return value


def all_changed(values, numbers):
    return tuple([changed(value, numbers) for value in values])


def changed_thing(thing, numbers):
    if thing[0] == "box":
        return ("box", changed(thing[1], numbers))
    return ("fun", thing[1], all_changed(thing[2], numbers))
