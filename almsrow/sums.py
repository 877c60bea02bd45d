"""All pence that came and went by a week."""

from almsrow.walking import behind_week


def sums(deed, book, week):
    """Rents, what was paid, what was given back, what is owed, what was struck, the chest; or NoWeek."""
    purse = behind_week(deed, book, week).purse
    paid = sum([row[1] for done in purse.papers for row in purse.papers[done][1]])
    back = sum([row[2] for done in purse.papers for row in purse.papers[done][2]])
    owed = sum([row[2] for row in purse.debt_rows()])
    struck = sum([row[2] for row in purse.struck])
    return (purse.rents, paid, back, owed, struck, purse.chest)
