"""Steps: what each instruction does."""

from sleepwalk.errors import NoStep
from sleepwalk.hindrances import popped_by, reckoned, stuck_word
from sleepwalk.values import new_number, spoken


def stepped(program, state):
    """Give the state behind one step, and what the step says, a text or None."""
    end, frames, things = state
    if end is not None:
        raise NoStep("a state that is done or stuck has no step")
    word = stuck_word(program, frames, things)
    if word is not None:
        return (("stuck", word), list(frames), dict(things)), None
    body, place, own, stack = frames[-1]
    instruction = program[body][place]
    rest = len(stack) - popped_by(instruction[0])
    popped = stack[rest:]
    frames_behind = frames[:-1] + [(body, place + 1, own, stack[:rest])]
    things_behind = dict(things)
    do_instruction(instruction, popped, frames_behind, things_behind)
    # Only the back of the last frame leaves no frame.
    end_behind = None if frames_behind else ("done", popped[0])
    said = spoken(popped[0], things) if instruction[0] == "say" else None
    return (end_behind, frames_behind, things_behind), said


def do_instruction(instruction, popped, frames, things):
    """Change frames and things as the instruction tells.

    Its values are popped already, and the top frame's place is one more.
    """
    match instruction:
        case ("num", n):
            push(frames, n)
        case ("get", k):
            push(frames, frames[-1][2][k])
        case ("keep",):
            keep(frames, popped[0])
        case ("add" | "minus" | "times" | "less" | "same",):
            push(frames, reckoned(instruction[0], popped))
        case ("box",):
            push_new(frames, things, ("box", popped[0]))
        case ("open",):
            push(frames, things[popped[0][1]][1])
        case ("fill",):
            things[popped[0][1]] = ("box", popped[1])
        case ("fun", f, numbers):
            push_new(frames, things, ("fun", f, own_values(frames, numbers)))
        case ("call",):
            _, body, kept = things[popped[0][1]]
            frames.append((body, 0, kept + (popped[1],), ()))
        case ("back",):
            frames.pop()
            if frames:
                push(frames, popped[0])
        case ("jump", p):
            go(frames, p)
        case ("unless", p) if popped[0] == 0:
            go(frames, p)


def push(frames, value):
    body, place, own, stack = frames[-1]
    frames[-1] = (body, place, own, stack + (value,))


def push_new(frames, things, thing):
    number = new_number(things)
    things[number] = thing
    push(frames, ("at", number))


def keep(frames, value):
    body, place, own, stack = frames[-1]
    frames[-1] = (body, place, own + (value,), stack)


def go(frames, place):
    body, _, own, stack = frames[-1]
    frames[-1] = (body, place, own, stack)


def own_values(frames, numbers):
    own = frames[-1][2]
    return tuple(own[number] for number in numbers)
