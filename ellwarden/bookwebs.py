"""The links of a book at a moment, and its web."""

from ellwarden.checks import is_integer
from ellwarden.marks import has_mark, reading_links
from ellwarden.rosters import stands
from ellwarden.webs import Web
from ellwarden.worlds import GROUND


def links_of(book, moment=None):
    """The links of the charter that hold at a moment, then those of the news in force."""
    numbers = book.in_force(moment)
    links = _kept_links(book, numbers)
    for number in numbers:
        links.extend(_news_links(book, number, moment))
    return tuple(links)


def web_of(book, moment=None):
    """The web of a book at a moment."""
    return Web(book.charter.all_spots(), links_of(book, moment))


def bearing(book, moment=None):
    """The numbers of the certificates and readings in force."""
    return tuple([number for number in book.in_force(moment) if book[number][1][0] in ("cert", "read")])


def web_without(book, numbers, moment=None):
    """The web of a book without the links of the bearing news with these numbers."""
    # True is not 1, but Python would find it among numbers.
    taken = [("news", number) for number in numbers if is_integer(number)]
    links = [link for link in links_of(book, moment) if link[3] not in taken]
    return Web(book.charter.all_spots(), links)


def _kept_links(book, numbers):
    """The links of the charter but for the drift that jolts take away."""
    jolts = {}
    for number in numbers:
        _, news = book[number]
        if news[0] == "jolt":
            jolts[news[1], news[2]] = True
    links = []
    for link in book.charter.own_links():
        a, b, _, (word, name) = link
        # Drift into a day is told between this day and the one before.
        if word != "drift" or (name, max(a[2], b[2])) not in jolts:
            links.append(link)
    return links


def _news_links(book, number, moment):
    """The links of a news in force; only bearing news has any."""
    _, news = book[number]
    if news[0] == "cert":
        return _cert_links(news, ("news", number))
    if news[0] != "read":
        return ()
    _, feature, role, day, mark = news
    name = stands(book, role, day, moment)
    if name == "nobody" or not has_mark(book.charter[name], mark):
        return ()
    return reading_links(book.charter[name], feature, day, mark, ("news", number))


def _cert_links(news, why):
    _, thing, first, last, start, end, other, stretch, low, high = news
    links = []
    for place in range(first, last + 1):
        for day in range(start, end + 1):
            spot = (thing, place, day)
            beside = GROUND if other == "ground" else (other, stretch, day)
            links.append((beside, spot, high, why))
            links.append((spot, beside, -low, why))
    return links
