"""Runs: step by step, until the fuel is used up or the state has ended."""

from sleepwalk.steps import stepped


def run(program, state, fuel):
    """Give the state behind at most as many steps as fuel tells, and all that they say."""
    end, frames, things = state
    # Where no step is done, what is given is new all the same.
    behind = (end, list(frames), dict(things))
    all_said = []
    for _ in range(fuel):
        if behind[0] is not None:
            break
        behind, said = stepped(program, behind)
        if said is not None:
            all_said.append(said)
    return behind, all_said
