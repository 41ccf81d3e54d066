"""Values: numbers, and tuples that lead to the things of a state."""


def is_number(value):
    # Python counts True and False among the integers, the machine does not.
    return isinstance(value, int) and not isinstance(value, bool)


def thing_of(value, things):
    """Give the thing that a value leads to, None for a number."""
    if isinstance(value, tuple):
        return things[value[1]]
    return None


def is_box(value, things):
    thing = thing_of(value, things)
    return thing is not None and thing[0] == "box"


def is_function(value, things):
    thing = thing_of(value, things)
    return thing is not None and thing[0] == "fun"


def new_number(things):
    """Give the number of the next new thing."""
    if not things:
        return 0
    return max(list(things)) + 1


def spoken(value, things):
    """Give the text that is said for a value."""
    if is_box(value, things):
        return "box"
    if is_function(value, things):
        return "function"
    return str(value)
