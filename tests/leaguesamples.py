"""Leagues for tests, and the plain way of what they do."""


from ellwarden.books import Book
from ellwarden.bookwebs import web_of
from ellwarden.cards import card_of
from ellwarden.charters import Charter
from ellwarden.errors import EllError
from ellwarden.leagues import League
from samples import device, feature

BASES = ("length", "time")
DIAL = device("dial", fall=1, rise=2, steep=3, cuts=(5,), slack=20)
RING = device("ring")
RULE = device("rule", least=-20, greatest=20, fall=2, rise=2)
BORE = feature("bore", fall=2, rise=1)
SLOT = feature("slot")
PEG = feature("peg", fall=1, rise=1)
NUT = feature("nut", "time")
CERT = ("cert", "bore", 0, 0, 1, 1, "ground", 0, 20, 30)


def charter(devices=(), features=(), **parts):
    return Charter(**{"days": 3, "bases": BASES, "devices": devices, "features": features, "roles": (("gauge", "length"),), "jobs": ("fit",), **parts})


ANNA = charter((DIAL, RING), (BORE, SLOT))
BERT = charter((RULE, DIAL), (PEG, BORE))
CORA = charter((RULE,), (NUT, PEG))
PAIRS = (("anna", Book(ANNA)), ("bert", Book(BERT)), ("cora", Book(CORA)))
TIES = (("anna", "bert"), ("cora", "bert"))


def three(ties=TIES):
    """A league of three houses in a row, the last tie told from its end."""
    return League(PAIRS, ties)


def known_without(league, house, left_out=None):
    """The web of what a house knows without the letter of another one, as it is told."""
    web = web_of(league.book_of(house))
    for name in league.houses:
        if name in league.neighbours(house) and name != left_out:
            number = league.kept(house, name)
            if number is not None:
                card = league.letter(number)[2]
                web = web.more([(a, b, card[a, b], ("letter", name)) for a in card for b in card if a != b])
    return web


def card_now(league, sender, receiver):
    """The card that a house would send, as it is told; None in a clash."""
    web = known_without(league, sender, receiver)
    return card_of(web, league.shared(sender, receiver)) if web.bad_ring() is None else None


def state_of(league):
    """All that can be seen of a league."""
    houses = league.houses
    letters = tuple(league.letter(number) for number in range(len(league)))
    books = tuple((name, tuple(league.book_of(name))) for name in houses)
    kept = tuple((a, b, league.kept(a, b)) for a in houses for b in league.neighbours(a))
    return (houses, league.ties, books, [(a, b, card.spots, card.rows, told) for a, b, card, told in letters], kept, tuple(league.horizon(name) for name in houses))


def random_league(rng, many, narrow=False):
    """A league of houses that ties join in a tree, or nearly so, with some news."""
    names = ["anna", "bert", "cora", "dora", "emil"][:many]
    rng.shuffle(names)
    ties = []
    for place in range(1, many):
        tie = (names[rng.randrange(place)], names[place])
        ties.append(tie if rng.random() < 0.5 else tie[::-1])
    rng.shuffle(ties)
    things = {name: [BORE] for name in names}
    for number, tie in enumerate(ties):
        own = feature("own" + "abcd"[number], fall=rng.randint(0, 2), rise=1) if rng.random() < 0.7 else device("own" + "abcd"[number], steep=1, cuts=(3,))
        for name in tie:
            things[name].insert(rng.randint(0, len(things[name])), own)
    pairs = []
    for name in rng.sample(names, many):
        made = charter([one for one in things[name] if len(one) > 6], [one for one in things[name] if len(one) == 6] + [feature("lone" + name)])
        pairs.append((name, Book(made)))
    league = League(pairs, ties)
    for _ in range(rng.randint(2, 6)):
        enter_some(rng, league, rng.choice(names), narrow)
    return league


def enter_some(rng, league, name, narrow=False):
    """Some certificate in the book of a house, or a withdrawal of one; narrow ones clash at times."""
    book = league.book_of(name)
    if len(book) > 0 and rng.random() < 0.2:
        league.enter(name, 2, ("strike", rng.randrange(len(book))))
        return
    things = list(book.charter)
    thing = rng.choice(things)
    other = rng.choice(["ground"] + [one for one in things if one != thing])
    day = rng.randint(0, 2)
    low = rng.randint(-20, 50)
    try:
        league.enter(name, 2, ("cert", thing, 0, 0, day, rng.randint(day, 2), other, 0, low, low + rng.randint(5, 20 if narrow else 60)))
    except EllError:
        pass


def some_deeds(rng, league, many):
    """So many sendings and deliveries, late, twice and never, and news in between."""
    for _ in range(many):
        kind = rng.random()
        if kind < 0.15:
            enter_some(rng, league, rng.choice(league.houses))
        elif kind < 0.6 and league.ties:
            tie = rng.choice(league.ties)
            try:
                league.send(*(tie if rng.random() < 0.5 else tie[::-1]))
            except EllError:
                pass
        elif len(league) > 0:
            league.deliver(rng.randrange(len(league)))


