"""What single words write, and the words of a line one by one."""

from almsrow.errors import NoText
from almsrow.kinds import is_literal, is_word

FIGURES = "0123456789"
MOST_FIGURES = 12


def number_in(word, least, most):
    """The number, from least to most, that the word writes, None of none; a bound of None is none."""
    figures = word
    if word.startswith("-"):
        figures = word[1:]
    if figures == "" or len(figures) > MOST_FIGURES or not all(figure in FIGURES for figure in figures):
        return None
    if figures[0] == "0" and word != "0":
        return None
    number = int(word)
    if (least is not None and number < least) or (most is not None and number > most):
        return None
    return number


def name_in(word):
    """The word itself where it is a name, else None."""
    if is_word(word):
        return word
    return None


def rules_in(word):
    """The rules that the word writes, None of none."""
    if word == "-":
        return ()
    rules = []
    for part in word.split(";"):
        clause = [_literal_in(text) for text in part.split("|")]
        if None in clause:
            return None
        rules.append(tuple(clause))
    return tuple(rules)


class Words:
    """The words of a line, taken one by one; one that can't stand is refused, and one that lacks."""

    def __init__(self, row, line):
        self.row = row
        self.words = line.split(" ")
        self.at = 0

    def take_number(self, least, most):
        """A number from least to most; a bound of None is none."""
        return self._take(number_in(self._word(), least, most))

    def take_name(self, other):
        """A name that isn't the other one."""
        name = name_in(self._word())
        if name == other:
            name = None
        return self._take(name)

    def take_parent(self, child):
        """A name that isn't the child's, "" of -."""
        if self._word() == "-":
            return self._take("")
        return self.take_name(child)

    def take_one(self, some):
        """One of some words."""
        word = self._word()
        if word not in some:
            word = None
        return self._take(word)

    def take_rules(self):
        """A word of rules."""
        return self._take(rules_in(self._word()))

    def need_end(self):
        """Refuses a word more."""
        if self.at < len(self.words):
            raise NoText(self.row, self.at)

    def _word(self):
        # Behind the last word a void one, which can't stand anywhere.
        if self.at < len(self.words):
            return self.words[self.at]
        return ""

    def _take(self, thing):
        if thing is None:
            raise NoText(self.row, self.at)
        self.at += 1
        return thing


def _literal_in(text):
    parts = text.split(":")
    literal = None
    if len(parts) == 3 and parts[0] == "age":
        literal = _ages_in(parts[1], parts[2])
    if len(parts) == 2 and (parts[0] == "town" or parts[0] == "out"):
        literal = (parts[0], tuple(parts[1].split(",")))
    if len(parts) == 2 and (parts[0] == "kin" or parts[0] == "far"):
        literal = (parts[0], number_in(parts[1], 0, None))
    if is_literal(literal):
        return literal
    return None


def _ages_in(start, end):
    """Ages as a literal, or no literal at all where one of the words is no number."""
    least = number_in(start, 0, None)
    if end == "-":
        return ("age", least, None)
    most = number_in(end, 0, None)
    if most is None:
        return None
    return ("age", least, most)
