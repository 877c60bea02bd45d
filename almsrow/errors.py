"""The refusals."""


class AlmsError(ValueError):
    """Any refusal."""


class NoPaper(AlmsError):
    """A thing that was looked at is no such paper."""

    def __init__(self, word, at):
        self.word = word
        self.at = at


class NoName(AlmsError):
    """There is no such name."""

    def __init__(self, name):
        self.name = name


class NoPlace(AlmsError):
    """There is no such place."""

    def __init__(self, place):
        self.place = place


class NoSeat(AlmsError):
    """There is no such seat."""

    def __init__(self, seat):
        self.seat = seat


class NoTurn(AlmsError):
    """There is no such turn, or no such count of turns."""

    def __init__(self, turn):
        self.turn = turn


class NoWeek(AlmsError):
    """The week isn't reckoned."""

    def __init__(self, week):
        self.week = week


class NoPage(AlmsError):
    """A page can't be taken, or isn't there."""

    def __init__(self, word):
        self.word = word


class NoBack(AlmsError):
    """There is nothing to go back to."""

    def __init__(self):
        pass


class NoText(AlmsError):
    """A text can't be read."""

    def __init__(self, row, word):
        self.row = row
        self.word = word


class NoRow(AlmsError):
    """A text is no row that is answered."""

    def __init__(self, row):
        self.row = row
