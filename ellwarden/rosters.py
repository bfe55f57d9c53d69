"""Who stands in a role and what does a job on a day, by the news in force at a moment."""

from ellwarden.checks import is_within
from ellwarden.errors import BadDay, Unknown


def stands(book, role, day, moment=None):
    """The device that stands in a role, or "nobody"."""
    numbers = book.in_force(moment)
    _ask_for(book, "role", role)
    _ask_for_day(book, day)
    return _last_named(book, numbers, "stand", role, day)


def does(book, job, day, moment=None):
    """The procedure that does a job, or "nobody"."""
    numbers = book.in_force(moment)
    _ask_for(book, "job", job)
    _ask_for_day(book, day)
    return _last_named(book, numbers, "edition", job, day)


def roster(book, moment=None):
    """For each role the tuple of its devices on all days."""
    numbers = book.in_force(moment)
    rows = []
    for role, _ in book.charter.roles:
        rows.append(tuple([_last_named(book, numbers, "stand", role, day) for day in range(book.charter.days)]))
    return tuple(rows)


def _ask_for(book, sort, name):
    if book.charter.sort_of(name) != sort:
        raise Unknown(name)


def _ask_for_day(book, day):
    if not is_within(day, 0, book.charter.days - 1):
        raise BadDay(day)


def _last_named(book, numbers, word, name, day):
    """Whom the last of these news with this word names for a role or a job on a day."""
    found = "nobody"
    for number in numbers:
        _, news = book[number]
        if news[:2] == (word, name) and news[3] <= day <= news[4]:
            found = news[2]
    return found
