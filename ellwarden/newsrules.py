"""How news is judged: NoNews for a strike of no earlier news, BadNews for the first bad place."""

from ellwarden.checks import is_within
from ellwarden.claims import forms_of, is_claim
from ellwarden.dims import base_dimension
from ellwarden.entries import MARK, SIZE
from ellwarden.errors import BadNews, NoNews
from ellwarden.marks import stretches

# The number of items of each news, its word included.
LENGTHS = {"cert": 10, "read": 5, "stand": 5, "jolt": 3, "edition": 5, "strike": 2, "told": 2}
THINGS = ("device", "feature")


def judge_news(charter, many, news):
    """Judges news for a book of this charter that has so many news already."""
    _ask(isinstance(news, tuple) and len(news) > 0 and isinstance(news[0], str), 0)
    word = news[0]
    _ask(len(news) == LENGTHS.get(word, 0), 0)
    if word == "strike" and not is_within(news[1], 0, many - 1):
        raise NoNews(news[1])
    if word == "cert":
        _judge_cert(charter, news)
    if word == "read":
        _judge_read(charter, news)
    if word == "stand":
        _judge_stand(charter, news)
    if word == "jolt":
        _ask(charter.sort_of(news[1]) in THINGS, 1)
        _ask(is_within(news[2], 1, charter.days - 1), 2)
    if word == "edition":
        _ask(charter.sort_of(news[1]) == "job", 1)
        _ask(news[2] == "nobody" or charter.sort_of(news[2]) == "procedure", 2)
        _judge_days(charter, news, 3)
    if word == "told":
        _ask(is_claim(news[1]) and _fits(charter, news[1]), 1)


def _ask(holds, place):
    """BadNews for a place that is not as told."""
    if not holds:
        raise BadNews(place)


def _judge_days(charter, news, place):
    """The first of some days at a place, and the last one behind it."""
    _ask(is_within(news[place], 0, charter.days - 1), place)
    _ask(is_within(news[place + 1], news[place], charter.days - 1), place + 1)


def _judge_cert(charter, news):
    _, thing, first, last, _, _, other, stretch, low, high = news
    _ask(charter.sort_of(thing) in THINGS, 1)
    many = stretches_in(charter, thing)
    _ask(is_within(first, 0, many - 1), 2)
    _ask(is_within(last, first, many - 1), 3)
    _judge_days(charter, news, 4)
    _ask(other == "ground" or _is_other(charter, thing, other), 6)
    # The ground has one stretch, like a feature.
    _ask(is_within(stretch, 0, stretches_in(charter, other) - 1), 7)
    _ask(is_within(low, -SIZE, SIZE), 8)
    _ask(is_within(high, low, SIZE), 9)


def _is_other(charter, thing, other):
    """Whether it is another thing of the same base."""
    if charter.sort_of(other) not in THINGS or other == thing:
        return False
    return charter.base_of(other) == charter.base_of(thing)


def stretches_in(charter, name):
    """The number of the stretches of a device, a feature or the ground."""
    return stretches(charter[name]) if charter.sort_of(name) == "device" else 1


def _judge_read(charter, news):
    _, feature, role, day, mark = news
    _ask(charter.sort_of(feature) == "feature", 1)
    _ask(charter.sort_of(role) == "role" and charter.base_of(role) == charter.base_of(feature), 2)
    _ask(is_within(day, 0, charter.days - 1), 3)
    _ask(is_within(mark, -MARK, MARK), 4)


def _judge_stand(charter, news):
    _, role, device, _, _ = news
    _ask(charter.sort_of(role) == "role", 1)
    _ask(device == "nobody" or _is_device_for(charter, role, device), 2)
    _judge_days(charter, news, 3)


def _is_device_for(charter, role, device):
    return charter.sort_of(device) == "device" and charter.base_of(device) == charter.base_of(role)


def _fits(charter, claim):
    """Whether the spots and the dimension of a claim are those of a house."""
    quantity = claim[1]
    if len(quantity[-1]) != len(charter.bases):
        return False
    for form in forms_of(quantity):
        spots = [spot for spot, _ in form[0]]
        if not all([_has_spot(charter, spot) for spot in spots]):
            return False
        bases = [charter.base_of(spot[0]) for spot in spots]
        if bases != bases[:1] * len(bases):
            return False
        if quantity[0] == "sum" and len(bases) > 0 and quantity[-1] != base_dimension(charter.bases, bases[0]):
            return False
    return True


def _has_spot(charter, spot):
    """Whether it is a spot of a thing of the charter."""
    name, stretch, day = spot
    if charter.sort_of(name) not in THINGS:
        return False
    return 0 <= stretch < stretches_in(charter, name) and 0 <= day < charter.days
