"""The checker of shares."""

from almsrow.errors import NoPaper
from almsrow.kinds import is_number, is_tuple


def lets_shares(some, pence, thing):
    """True of the shares of the dues and the pence; of any other thing NoPaper."""
    if not is_tuple(thing, len(some)) or not all(is_number(part) for part in thing):
        raise NoPaper("shape", -1)
    whole = sum(some)
    more = [thing[k] - pence * some[k] // whole for k in range(len(some))]
    for k in range(len(some)):
        if more[k] != 0 and more[k] != 1:
            raise NoPaper("part", k)
    if sum(thing) != pence:
        raise NoPaper("sum", -1)
    leaves = [pence * due % whole for due in some]
    for k in range(len(some)):
        if more[k] == 1 and _is_passed_over(more, leaves, k):
            raise NoPaper("ahead", k)
    return True


def _is_passed_over(more, leaves, k):
    """True where another one should have the pence that place k has more."""
    for j in range(len(more)):
        if more[j] == 0 and (leaves[j] > leaves[k] or (leaves[j] == leaves[k] and j < k)):
            return True
    return False
