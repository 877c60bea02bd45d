"""Days of a week that are counted, and what is due by them."""

from almsrow.walking import behind_week
from almsrow.weekly import counted_days


def counted(deed, book, week, name):
    """How many days of the week are counted for the name; NoWeek, or NoName where it didn't come."""
    standing = behind_week(deed, book, week)
    standing.people.need_name(name)
    return counted_days(standing, week, name)


def dues(deed, book, week):
    """Of each one who is housed in the week's last evening, by names, what is due; or NoWeek."""
    return behind_week(deed, book, week).purse.papers[week][0]
