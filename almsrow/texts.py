"""Pages, rules, books and deeds written."""


def page_line(page):
    """The page's things, - for no parent."""
    return " ".join([_blankless(thing) for thing in page])


def rules_word(rules):
    """The rules in one word."""
    if not rules:
        return "-"
    return ";".join(["|".join([_literal_word(literal) for literal in clause]) for clause in rules])


def book_lines(book):
    """The lines of the book's pages."""
    return [page_line(page) for page in book]


def deed_lines(deed):
    """The lines of the deed: founder, terms, places, seats."""
    founder, places, seats, terms = deed
    lines = ["founder " + founder, "terms " + " ".join([str(term) for term in terms])]
    for sort, rate, rules in places:
        lines.append(" ".join(["place", sort, str(rate), rules_word(rules)]))
    for holder, weight in seats:
        lines.append(" ".join(["seat", holder, str(weight)]))
    return lines


def _blankless(thing):
    if thing == "":
        return "-"
    return str(thing)


def _literal_word(literal):
    return ":".join([_part_word(part) for part in literal])


def _part_word(part):
    """A word, a number, towns with commas between, - for None."""
    if part is None:
        return "-"
    if isinstance(part, tuple):
        return ",".join(part)
    return str(part)
