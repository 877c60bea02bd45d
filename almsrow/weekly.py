"""What is reckoned of a week while a book is walked."""

WEEK = 7


def counted_days(standing, week, name):
    """How many days of the week are counted for the name, of those that were walked."""
    days = range(WEEK * week, WEEK * week + WEEK)
    return len([day for day in days if standing.was_found(name, day) and (name, day) not in standing.lost])


def reckon_week(standing, week):
    """Pays, behind the week's last evening, those who are housed."""
    dues = []
    for place in standing.places:
        if place.dweller is not None:
            dues.append((place.dweller, place.rate * counted_days(standing, week, place.dweller)))
    standing.purse.reckon(week, tuple(sorted(dues)))
