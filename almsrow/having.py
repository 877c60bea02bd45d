"""What a name has behind a moment."""

from almsrow.gowns import gown_days
from almsrow.people import YEAR
from almsrow.walking import behind_with


def has(deed, book, moment, name):
    """Place, since when, what it was paid, what it is owed, gowns, days away left; or NoName."""
    standing = behind_with(deed, book, moment, name)
    home = standing.home_of(name)
    place = None
    since = None
    if home is not None:
        place = home[0]
        since = home[1:]
    owed = sum([pence for _, other, pence in standing.purse.debt_rows() if other == name])
    gowns = len(gown_days(standing, moment, name))
    away = standing.nights_away.get((name, moment[0] // YEAR), 0)
    return (place, since, _paid_to(standing.purse.papers, name), owed, gowns, max(0, standing.terms[2] - away))


def _paid_to(papers, name):
    """What the name was paid and given back by the papers of weeks."""
    pence = 0
    for week in papers:
        _, paid, back = papers[week]
        pence += sum([row[1] for row in paid if row[0] == name])
        pence += sum([row[2] for row in back if row[1] == name])
    return pence
