"""States: the first one of a program, and which ones fit a program."""


def started(program):
    """Give the state of a program that begins, at its body 0."""
    return (None, [(0, 0, (), ())], {})


def is_done(end):
    """Tell if this end is that of a state that is done, so that it has a value."""
    return end is not None and end[0] == "done"


def fits(program, state):
    """Tell if the bodies and places of a state are those of the program."""
    _, frames, things = state
    if not all(frame_fits(program, frame) for frame in frames):
        return False
    return all(thing_fits(program, thing) for thing in list(things.values()))


def frame_fits(program, frame):
    body, place = frame[:2]
    return has_body(program, body) and 0 <= place <= len(program[body])


def thing_fits(program, thing):
    return thing[0] != "fun" or has_body(program, thing[1])


def has_body(program, body):
    return 0 <= body < len(program)
