"""Plans: signs, chosen one after the other, that tell kinds of states apart.

A group is the ascending tuple of the kinds that are still possible. The signs that are written part it into
smaller groups; nothing is left to find where a group is one kind alone.
"""


def best_plan(moves, group):
    """Return the tuple of the fewest signs that a plan needs and the least sign with which such a plan begins.

    The sign is None if no sign is needed. Otherwise there is a plan: two kinds are unlike, so some signs part them.
    """
    known = {}
    many = 0
    sign = None
    while len(group) > 1 and sign is None:
        many += 1
        sign = _least_sign(moves, group, many, known)
    return many, sign


def _least_sign(moves, group, many, known):
    """Return the least sign with which a plan of at most so many signs begins, or None.

    known holds the answers so far, for it is asked for the same groups behind unlike signs.
    """
    asked = (group, many)
    if asked not in known:
        known[asked] = None
        for sign in range(len(moves[group[0]])):
            if _is_found_behind(moves, group, sign, many - 1, known):
                known[asked] = sign
                break
    return known[asked]


def _is_found_behind(moves, group, sign, many, known):
    """Tell whether so many signs behind a sign are enough, whatever is written at it."""
    for part in _parts_behind(moves, group, sign):
        if len(part) > 1 and (many == 0 or _least_sign(moves, part, many, known) is None):
            return False
    return True


def _parts_behind(moves, group, sign):
    """Return the list of the groups behind a sign, one for each of what may be written at it."""
    parts = {}
    for kind in group:
        target, written = moves[kind][sign]
        parts.setdefault(written, []).append(target)
    return [tuple(sorted(set(part))) for part in parts.values()]
