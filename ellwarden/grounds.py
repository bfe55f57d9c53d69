"""What bears claims: grounds, what a claim leans on, fellings; and doubts, which leave a world."""

from ellwarden.bookwebs import bearing, web_of
from ellwarden.checks import is_integer
from ellwarden.choices import choices, contains, meets
from ellwarden.claims import forms_of
from ellwarden.errors import NoNews, NoSpot, TooMany
from ellwarden.standing import denying

MOST = 8


class Scale:
    """A claim and the bearing news of a moment. What was weighed once is kept."""

    def __init__(self, book, claim, moment):
        self.numbers = bearing(book, moment)
        self._web = web_of(book, moment)
        self._claim = claim
        self._weighed = {}
        for form in forms_of(claim[1]):
            for spot, _ in form[0]:
                if spot not in self._web:
                    raise NoSpot(spot)
        self._web.ask_for_world()
        _ask_for_few(self.numbers)

    def holds(self, kept):
        """Whether the claim is borne by these of the bearing news."""
        taken = self.others(kept)
        if taken not in self._weighed:
            self._weighed[taken] = denying(_taken_from(self._web, taken), self._claim) is None
        return self._weighed[taken]

    def others(self, numbers):
        """All other bearing news."""
        return tuple([number for number in self.numbers if number not in numbers])

    def most_beside(self, kept):
        """A greatest set that has these news, by which the claim is not borne."""
        for number in self.numbers:
            if number not in kept and not self.holds(kept + (number,)):
                kept = kept + (number,)
        return kept


def _taken_from(web, numbers):
    """A web without the links of news."""
    return web.without([("news", number) for number in numbers])


def _ask_for_few(numbers):
    if len(numbers) > MOST:
        raise TooMany("news")


def bears(book, numbers, claim, moment=None):
    """Whether a claim is borne by these of the bearing news of a moment."""
    there = bearing(book, moment)
    kept = tuple(numbers)
    for number in kept:
        if not is_integer(number) or number not in there:
            raise NoNews(number)
    return Scale(book, claim, moment).holds(kept)


def grounds(book, claim, moment=None):
    """All smallest sets of bearing news by which a claim is borne."""
    return _grounds_on(Scale(book, claim, moment))


def _grounds_on(scale):
    found = []
    short = []
    for row in choices(scale.numbers):
        if any([contains(row, least) for least in found]) or any([contains(most, row) for most in short]):
            continue
        if scale.holds(row):
            found.append(row)
        else:
            short.append(scale.most_beside(row))
    return tuple(found)


def ground(book, claim, moment=None):
    """The least ground, or None."""
    found = grounds(book, claim, moment)
    return found[0] if len(found) > 0 else None


def leaning(book, claim, moment=None):
    """The bearing news without each of which a claim does not stand, though it stands."""
    scale = Scale(book, claim, moment)
    if not scale.holds(scale.numbers):
        return ()
    return tuple([number for number in scale.numbers if not scale.holds(scale.others((number,)))])


def felling(book, claim, moment=None):
    """The fewest bearing news without which a claim does not stand, or None."""
    scale = Scale(book, claim, moment)
    found = _grounds_on(scale)
    for row in choices(scale.numbers):
        if all([meets(row, least) for least in found]):
            return row
    return None


def doubts(book, moment=None):
    """The fewest bearing news without the links of which the web of a moment has a world."""
    numbers = bearing(book, moment)
    _ask_for_few(numbers)
    web = web_of(book, moment)
    row = ()
    rings = []
    for row in choices(numbers):
        if all([meets(row, ring) for ring in rings]):
            ring = _taken_from(web, row).bad_ring()
            if ring is None:
                break
            rings.append([why[1] for _, _, _, why in ring if why[0] == "news"])
    # Without all bearing news there always is a world.
    return row
