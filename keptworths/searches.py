"""Searches for the first history behind which something has come about."""


def first_history(space):
    """The first history to a state that a space looks for, None if there is none.

    States are met in the order of the first histories to them: shorter ones first, then by their deeds.
    """
    state = space.first()
    if space.is_found(state):
        return [("put",)]
    met = {state: True}
    waiting = [(state, [("put",)])]
    at = 0
    while at < len(waiting):
        state, history = waiting[at]
        at += 1
        for step in space.steps(state):
            behind = space.behind(state, step)
            if behind in met:
                continue
            if space.is_found(behind):
                return history + [step.deed]
            met[behind] = True
            waiting.append((behind, history + [step.deed]))
    return None
