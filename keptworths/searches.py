"""Searches through the states of a space."""


def first_history(space):
    """The first history to a state that a space looks for, None if there is none."""
    state, history = states_met(space)[-1]
    return history if space.is_found(state) else None


def states_met(space):
    """The states of a space, each with the first history to it, up to the first one that the space looks for.

    States are met in the order of the first histories to them: shorter ones first, then by their deeds.
    """
    start = space.first()
    known = {start: True}
    met = [(start, [("put",)])]
    at = 0
    while at < len(met) and not space.is_found(met[-1][0]):
        state, history = met[at]
        at += 1
        for step in space.steps(state):
            behind = space.behind(state, step)
            if behind in known:
                continue
            known[behind] = True
            met.append((behind, history + [step.deed]))
            if space.is_found(behind):
                break
    return met
