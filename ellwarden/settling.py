"""Settling leagues: which ties are stale, the letters that settle them, and what is denied then."""

from ellwarden.bookwebs import web_of
from ellwarden.errors import Clash, NoMoment
from ellwarden.standing import fallen_in
from ellwarden.webs import Web
from ellwarden.worlds import GROUND


def joined(league, moments):
    """The web of all books together at some moments, without those whose moment is None."""
    told = list(moments)
    if len(told) != len(league.houses):
        raise NoMoment(None)
    webs = []
    for house, moment in zip(league.houses, told):
        if moment is not None:
            webs.append(web_of(league.book_of(house), moment))
    whole = Web((GROUND,), ())
    for web in webs:
        whole = whole + web
    return whole


def stale(league):
    """All stale ties."""
    return tuple([tie for tie in _directions(league) if _is_stale(league, tie)])


def settle(league):
    """Sends and delivers letters until no tie is stale; the ties along which they went."""
    trial = league.copy()
    settled = {}
    went = []
    tie = _next_tie(trial, settled)
    while tie is not None:
        sender, receiver = tie
        trial.deliver(trial.send(sender, receiver))
        went.append(tie)
        tie = _next_tie(trial, settled)
    # Nothing is refused any more.
    league.take_over(trial)
    return tuple(went)


def denied(league, house):
    """The tellings in force in the book of a house that a world of what it knows denies."""
    book = league.book_of(house)
    worlds = fallen_in(league.knows(house), book)
    return tuple(worlds.items())


def _directions(league):
    """The ties in both directions, in order."""
    found = []
    for first, second in league.ties:
        found.append((first, second))
        found.append((second, first))
    return found


def _is_stale(league, tie):
    """Whether the receiver keeps another card than the sender would send now; Clash."""
    sender, receiver = tie
    card = league.outgoing(sender, receiver)
    number = league.kept(receiver, sender)
    return number is None or league.letter(number)[2] != card


def _next_tie(league, settled):
    """The first stale tie above which no tie is stale, or None. settled keeps those that were
    found not to be stale, nor any above them."""
    for tie in _directions(league):
        if not _is_settled(league, tie, settled) and _are_settled(league, _above(league, tie), settled):
            return tie
    return None


def _is_settled(league, tie, settled):
    """Whether neither a tie nor any above it is stale; it is looked at only if none above it is."""
    if tie not in settled and _are_settled(league, _above(league, tie), settled) and _is_fresh(league, tie):
        settled[tie] = True
    return tie in settled


def _are_settled(league, ties, settled):
    return all([_is_settled(league, tie, settled) for tie in ties])


def _above(league, tie):
    """The ties next above a tie."""
    sender, receiver = tie
    return [(other, sender) for other in league.neighbours(sender) if other != receiver]


def _is_fresh(league, tie):
    """Whether a tie is not stale; one along which a house in a clash sends is."""
    try:
        return not _is_stale(league, tie)
    except Clash:
        return False
