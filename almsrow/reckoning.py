"""The reckoning of a week: its paper, and what is owed, in the chest and struck behind it."""

from almsrow.walking import behind_week


def week_paper(deed, book, week):
    """The dues of the week, what was paid of them, what was given back; or NoWeek."""
    return behind_week(deed, book, week).purse.papers[week]


def owed(deed, book, week):
    """What is owed, rising: week, name, pence; or NoWeek."""
    return behind_week(deed, book, week).purse.debt_rows()


def chest(deed, book, week):
    """What is in the chest; or NoWeek."""
    return behind_week(deed, book, week).purse.chest


def struck(deed, book, week):
    """What was struck, as those went to whom it was owed: name, week, pence; or NoWeek."""
    return behind_week(deed, book, week).purse.struck
