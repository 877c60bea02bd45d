"""A register: a deed, a book, and what was done to it."""

from almsrow.books import joined, with_page, without_page
from almsrow.errors import NoBack, NoPage
from almsrow.pages import is_page

MOST_PAGES = 60


class Register:
    """A deed and a book, with all books that stood behind the deeds done to it."""

    def __init__(self, deed):
        self.house_deed = deed
        self.done = []
        self.books = [()]

    def tell(self, thing):
        """True of a page that is new, False of one that is there; else NoPage."""
        if not is_page(thing):
            raise NoPage("kind")
        if thing in self.book():
            return False
        if len(self.book()) >= MOST_PAGES:
            raise NoPage("many")
        self._note(("tell", thing), with_page(self.book(), thing))
        return True

    def strike(self, thing):
        """Takes the page out; NoPage where it isn't there."""
        if not is_page(thing):
            raise NoPage("none")
        self._note(("strike", thing), without_page(self.book(), thing))

    def take_in(self, other):
        """How many pages of the other register are new here; they are taken in, or NoPage."""
        new = tuple([page for page in other.book() if page not in self.book()])
        if len(self.book()) + len(new) > MOST_PAGES:
            raise NoPage("many")
        if new:
            self._note(("take", new), joined(self.book(), new))
        return len(new)

    def back(self):
        """Takes back the last deed, and tells it; NoBack where none is left."""
        if not self.done:
            raise NoBack()
        self.books.pop()
        return self.done.pop()

    def deed(self):
        """The deed of the house."""
        return self.house_deed

    def book(self):
        """The book as it stands."""
        return self.books[-1]

    def deeds(self):
        """How many deeds there are."""
        return len(self.done)

    def elder(self, k):
        """The book behind the first k deeds; NoBack where there aren't so many."""
        if k < 0 or k > len(self.done):
            raise NoBack()
        return self.books[k]

    def _note(self, told, after):
        self.done.append(told)
        self.books.append(after)
