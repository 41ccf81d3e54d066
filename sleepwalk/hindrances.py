"""Why a step can't be done: the words of stuck states."""

from sleepwalk.limits import MOST_FRAMES, MOST_NUMBER, MOST_VALUES
from sleepwalk.values import is_box, is_function, is_number

# how many values an instruction pops; those that are not here pop none
POPPED = {
    "keep": 1, "drop": 1, "box": 1, "open": 1, "back": 1, "unless": 1, "say": 1,
    "add": 2, "minus": 2, "times": 2, "less": 2, "same": 2, "fill": 2, "call": 2,
}

STUCK_WORDS = ("end", "empty", "own", "kind", "great", "deep", "full")


def popped_by(word):
    return POPPED.get(word, 0)


def reckoned(word, popped):
    """Give the number that add, minus, times, less or same pushes."""
    first, second = popped
    if word == "add":
        return first + second
    if word == "minus":
        return first - second
    if word == "times":
        return first * second
    if word == "less":
        return 1 if first < second else 0
    return 1 if first == second else 0


def stuck_word(program, frames, things):
    """Give the word for what hinders the next step, None where nothing does."""
    body, place, own, stack = frames[-1]
    if not 0 <= place < len(program[body]):
        return "end"
    instruction = program[body][place]
    word = instruction[0]
    rest = len(stack) - popped_by(word)
    if rest < 0:
        return "empty"
    if lacks_own(instruction, own):
        return "own"
    # What follows may rely on what was asked above: values are there, and of their kind.
    popped = stack[rest:]
    if is_wrong_kind(word, popped, things):
        return "kind"
    if is_too_great(word, popped):
        return "great"
    if word == "call" and len(frames) >= MOST_FRAMES:
        return "deep"
    if is_full(word, frames):
        return "full"
    return None


def lacks_own(instruction, own):
    match instruction:
        case ("get", k):
            return k >= len(own)
        case ("fun", _, kept):
            return any(number >= len(own) for number in kept)
    return False


def is_wrong_kind(word, popped, things):
    match word:
        case "add" | "minus" | "times" | "less" | "unless":
            return not all(is_number(value) for value in popped)
        case "open" | "fill":
            return not is_box(popped[0], things)
        case "call":
            return not is_function(popped[0], things)
    return False


def is_too_great(word, popped):
    return word in ("add", "minus", "times") and abs(reckoned(word, popped)) > MOST_NUMBER


def is_full(word, frames):
    """Tell if there is no room for one value more where the instruction puts it.

    The other instructions that push have popped a value of the same stack before.
    """
    own, stack = frames[-1][2:]
    match word:
        case "num" | "get" | "fun":
            return len(stack) >= MOST_VALUES
        case "keep":
            return len(own) >= MOST_VALUES
        case "back":
            return len(frames) > 1 and len(frames[-2][3]) >= MOST_VALUES
    return False
