"""What comes of some things, step by step."""


def reached(begun, further):
    """List what is begun with and all that comes of it, each once, ascending.

    The function tells what comes of one of them by one step, as a list.
    """
    found = {}
    waiting = list(begun)
    while waiting:
        one = waiting.pop()
        if one not in found:
            found[one] = True
            waiting.extend(further(one))
    return sorted(found)
