"""The calls that a history and a branch of it have made, compared."""


def difference(past, now):
    """Return the tuple (same, there, here) of the calls of both lists, of the first and of the second one alone."""
    earlier = {call: True for call in past}
    later = {call: True for call in now}
    same = [call for call in past if call in later]
    there = [call for call in past if call not in later]
    here = [call for call in now if call not in earlier]
    return (_by_keys(same), _by_keys(there), _by_keys(here))


def calls_since(state, other):
    """Return the list of the calls that have gone out in the second state and not in the first one."""
    earlier = {call: True for call in state.gone}
    return [call for call in other.gone if call not in earlier]


def _by_keys(calls):
    return sorted(calls, key=lambda call: call[0])
