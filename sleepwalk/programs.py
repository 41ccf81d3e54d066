"""Programs: what an instruction is, and which programs are refused."""

from sleepwalk.errors import NoBodies, NoBody, NoInstruction, NoPlace, TooMany
from sleepwalk.limits import MOST_BODIES, MOST_INSTRUCTIONS, MOST_KEPT, MOST_VALUES, MOST_WRITTEN
from sleepwalk.values import is_number

# the words that make an instruction alone
LONE_WORDS = (
    "keep", "drop", "add", "minus", "times", "less", "same",
    "box", "open", "fill", "call", "back", "say",
)


def checked(program):
    """Give the program again, its bodies new lists, or refuse it."""
    if len(program) == 0:
        raise NoBodies("a program has one body at least")
    if len(program) > MOST_BODIES:
        raise TooMany(f"a program has at most {MOST_BODIES} bodies")
    for number in range(len(program)):
        check_body(program, number)
    return [list(body) for body in program]


def check_body(program, number):
    body = program[number]
    if len(body) > MOST_INSTRUCTIONS:
        raise TooMany(f"body {number} has over {MOST_INSTRUCTIONS} instructions")
    for place, instruction in enumerate(body):
        at = f"body {number}, place {place}"
        if not is_instruction(instruction):
            raise NoInstruction(f"{at}: no instruction")
        if instruction[0] == "fun" and not 0 <= instruction[1] < len(program):
            raise NoBody(f"{at}: the program has no such body")
        if instruction[0] in ("jump", "unless") and not 0 <= instruction[1] <= len(body):
            raise NoPlace(f"{at}: the body has no such place")


def is_instruction(instruction):
    """Tell if this is an instruction, whether or not its body or place is there."""
    match instruction:
        case ("num", n):
            return is_number(n) and abs(n) <= MOST_WRITTEN
        case ("get", k):
            return is_own_number(k)
        case ("fun", f, kept):
            return is_number(f) and is_kept(kept)
        case ("jump" | "unless", p):
            return is_number(p)
        case (word,):
            return word in LONE_WORDS
    return False


def is_kept(kept):
    if not isinstance(kept, tuple) or len(kept) > MOST_KEPT:
        return False
    return all(is_own_number(k) for k in kept)


def is_own_number(k):
    """Tell if an own value of a frame may have this number."""
    return is_number(k) and 0 <= k < MOST_VALUES
