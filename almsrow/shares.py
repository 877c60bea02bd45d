"""Shares of a sum among dues."""


def shares(some, pence):
    """Of each of the dues its share of the pence."""
    whole = sum(some)
    parts = [pence * due // whole for due in some]
    # Those that leave most first, of like ones those that stand ahead.
    ahead = sorted([(-(pence * some[k] % whole), k) for k in range(len(some))])
    for _, k in ahead[:pence - sum(parts)]:
        parts[k] += 1
    return tuple(parts)
