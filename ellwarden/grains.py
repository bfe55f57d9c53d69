"""Finer grains of a base, for charters and books."""

from ellwarden.books import Book
from ellwarden.claims import forms_of
from ellwarden.entries import SIZE
from ellwarden.errors import TooLarge, Unknown
from ellwarden.ratios import power, ratio, times
from ellwarden.units import finer_table

# Where the sizes begin and end in the tuples of devices, of features and of certificates.
DEVICE_SIZES = (4, 11)
FEATURE_SIZES = (2, 6)
CERT_SIZES = (8, 10)


def finer_charter(charter, base, many):
    """The charter with grains of a base that are so many times finer."""
    _ask_for_base(charter, base)
    return _finer_charter(charter, base, many, _finer_things(charter, base, many))


def finer(book, base, many):
    """The book with grains of a base that are so many times finer."""
    charter = book.charter
    _ask_for_base(charter, base)
    things = _finer_things(charter, base, many)
    pairs = [(day, _finer_news(charter, news, base, many)) for day, news in book]
    return Book.of(_finer_charter(charter, base, many, things), pairs)


def _ask_for_base(charter, base):
    if base not in charter.bases:
        raise Unknown(base)


def _finer_things(charter, base, many):
    """The pair of the devices and the features."""
    devices = [_finer_sizes(device, DEVICE_SIZES, many) if device[1] == base else device for device in charter.devices]
    features = []
    for feature in charter.features:
        features.append(_finer_sizes(feature, FEATURE_SIZES, many) if feature[1] == base else feature)
    return (devices, features)


def _finer_sizes(entry, places, many):
    """The tuple with the sizes from the first to ahead of the second place multiplied."""
    start, end = places
    sizes = tuple([_multiplied_size(size, many) for size in entry[start:end]])
    return entry[:start] + sizes + entry[end:]


def _multiplied_size(size, many):
    number = size * many
    if abs(number) > SIZE:
        raise TooLarge(number)
    return number


def _finer_charter(charter, base, many, things):
    """The charter with finer units, and with these devices and features."""
    devices, features = things
    units = finer_table(charter.units, charter.bases.index(base), many)
    return charter.changed(units=units, devices=devices, features=features)


def _finer_news(charter, news, base, many):
    if news[0] == "cert" and charter.base_of(news[1]) == base:
        return _finer_sizes(news, CERT_SIZES, many)
    if news[0] == "told":
        return ("told", _finer_claim(charter, news[1], base, many))
    return news


def _finer_claim(charter, claim, base, many):
    word, quantity, first, second = claim
    exponent = quantity[-1][charter.bases.index(base)]
    whole = power(ratio(many), exponent)
    forms = forms_of(quantity)
    own = [_has_spot_of(charter, form, base) for form in forms]
    longer = [_times_rest(form, power(ratio(many), one)) for form, one in zip(forms, own)]
    if quantity[0] == "sum":
        form = _times_rest(forms[0], whole) if forms[0][0] == () else longer[0]
        told = ("sum", form, quantity[-1])
    else:
        # The scale makes up for what the forms do not bring along.
        beside = own[1] if quantity[0] == "product" else -own[1]
        scale = times(quantity[3], power(ratio(many), exponent - own[0] - beside))
        told = (quantity[0], longer[0], longer[1], scale, quantity[-1])
    return (word, told, times(first, whole), times(second, whole))


def _has_spot_of(charter, form, base):
    """1 if a form has a spot of a thing of the base, otherwise 0."""
    return 1 if any([charter.base_of(spot[0]) == base for spot, _ in form[0]]) else 0


def _times_rest(form, number):
    return (form[0], times(form[1], number))
