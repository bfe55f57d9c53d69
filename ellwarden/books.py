"""Books: a charter and the news that came, with the days on which they became known."""

from ellwarden.checks import is_within
from ellwarden.errors import BadDay, NoMoment, NoNews, TooMany
from ellwarden.newsrules import judge_news


class Book:
    """A charter and its news, which are numbered from 0 in the order in which they came."""

    MOST = 60

    def __init__(self, charter):
        self.charter = charter
        self._pairs = ()

    @classmethod
    def of(cls, charter, pairs):
        """The book into which these pairs of a day and news were entered, one by one."""
        made = cls(charter)
        for day, news in pairs:
            made.enter(day, news)
        return made

    def __getitem__(self, at):
        if not is_within(at, 0, len(self._pairs) - 1):
            raise NoNews(at)
        return self._pairs[at]

    def __len__(self):
        return len(self._pairs)

    def __iter__(self):
        return iter(self._pairs)

    def __eq__(self, other):
        return isinstance(other, Book) and self.charter == other.charter and self._pairs == other._pairs

    def enter(self, day, news):
        """Enters news that becomes known on this day; its number."""
        self.ask_for_day(day)
        self.ask_for_room(1)
        judge_news(self.charter, len(self._pairs), news)
        self._pairs = self._pairs + ((day, news),)
        return len(self._pairs) - 1

    def ask_for_day(self, day):
        """BadDay unless news can become known on this day."""
        first = self._pairs[-1][0] if len(self._pairs) > 0 else 0
        if not is_within(day, first, self.charter.days - 1):
            raise BadDay(day)

    def ask_for_room(self, many):
        """TooMany if so many further news are too many."""
        if len(self._pairs) + many > Book.MOST:
            raise TooMany("news")

    def moment_of(self, day):
        """The number of the news that became known up to this day."""
        if not is_within(day, 0, self.charter.days - 1):
            raise BadDay(day)
        return len([known for known, _ in self._pairs if known <= day])

    def moments(self):
        """All moments, from 0 on."""
        for moment in range(len(self._pairs) + 1):
            yield moment

    def in_force(self, moment=None):
        """The ascending tuple of the numbers of the news in force at a moment."""
        found = []
        struck = {}
        # From the last one on, as only later news strikes news.
        for number, (_, news) in reversed(list(enumerate(self._pairs[:self._moment(moment)]))):
            if number not in struck:
                found.append(number)
                if news[0] == "strike":
                    struck[news[1]] = True
        return tuple(found[::-1])

    def cut(self, moment):
        """The book with the news up to a moment."""
        made = Book(self.charter)
        made._pairs = self._pairs[:self._moment(moment)]
        return made

    def copy(self):
        """A book that goes on by itself."""
        return self.cut(None)

    def _moment(self, moment):
        """The integer of a moment; None is that behind all news."""
        if moment is None:
            return len(self._pairs)
        if not is_within(moment, 0, len(self._pairs)):
            raise NoMoment(moment)
        return moment


class Trial:
    """A context that gives a book, which is behind the block as it was when that began."""

    def __init__(self, book):
        self._book = book
        self._kept = ()

    def __enter__(self):
        self._kept = self._book._pairs
        return self._book

    def __exit__(self, *told):
        book = self._book
        book._pairs = self._kept


def tried(book, rows):
    """Copies of the book with rows of news, each row within a trial of its own inside that of
    the row before."""
    copies = []
    _try_rows(book, list(rows), copies)
    return tuple(copies)


def _try_rows(book, rows, copies):
    """Puts the copies behind those of the rows before."""
    if len(rows) == 0:
        return
    with Trial(book) as held:
        for day, news in rows[0]:
            held.enter(day, news)
        copies.append(held.copy())
        _try_rows(held, rows[1:], copies)
        if len(rows) > 1:
            copies.append(held.copy())
