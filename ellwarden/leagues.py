"""Leagues: houses with books of their own, which send one another letters of what they know."""

from ellwarden.bookwebs import web_of
from ellwarden.cards import card_links
from ellwarden.checks import is_within
from ellwarden.errors import Clash, NoHouse, NoLetter, NoTie
from ellwarden.houses import Member, Status, judge_houses, judge_things, judge_ties, shared_spots


class League:
    """Houses, ties between them, and letters."""

    def __init__(self, houses, ties=()):
        books = judge_houses(houses)
        self.houses = tuple(books)
        self.ties = judge_ties(ties, self.houses)
        judge_things(books, self.ties)
        members = {}
        for house, book in books.items():
            charters = [books[name].charter for name in self._tied_to(house)]
            members[house] = Member(book.copy(), shared_spots(book.charter, charters))
        self._status = Status(members, (), {}, {})

    def __len__(self):
        return len(self._status.letters)

    def book_of(self, house):
        """A copy of the book of a house."""
        return self._book_in(house).copy()

    def enter(self, house, day, news):
        """Enters news in the book of a house; its number."""
        book = self.book_of(house)
        number = book.enter(day, news)
        status = self._status
        members = {**status.members, house: Member(book, status.members[house].spots)}
        self._status = Status(members, status.letters, status.latest, status.drafts_beside(house))
        return number

    def neighbours(self, house):
        """The houses that a house is tied to."""
        self._ask_for_house(house)
        return self._tied_to(house)

    def shared(self, sender, receiver):
        """The spots that are shared along a tie, in the order of the sender."""
        self._ask_for_tie(sender, receiver)
        return shared_spots(self._book_in(sender).charter, [self._book_in(receiver).charter])

    def knows(self, house):
        """The web of what a house knows."""
        return self._web_without(house, None)

    def outgoing(self, sender, receiver):
        """The card that a house would send now."""
        spots = self.shared(sender, receiver)
        drafts = self._status.drafts
        if (sender, receiver) not in drafts:
            drafts[sender, receiver] = self._known_card(sender, receiver).cut(spots)
        return drafts[sender, receiver]

    def send(self, sender, receiver):
        """Sends a letter; its number."""
        card = self.outgoing(sender, receiver)
        status = self._status
        letter = (sender, receiver, card, self._horizon(sender, receiver))
        self._status = Status(status.members, status.letters + (letter,), status.latest, status.drafts)
        return len(status.letters)

    def deliver(self, number):
        """Delivers a letter; whether the receiver keeps it now in the place of what it kept."""
        sender, receiver, _, _ = self.letter(number)
        before = self.kept(receiver, sender)
        if before is not None and before >= number:
            return False
        status = self._status
        latest = {pair: status.latest[pair] for pair in status.latest}
        latest[receiver, sender] = number
        self._status = Status(status.members, status.letters, latest, status.drafts_beside(receiver))
        return True

    def letter(self, number):
        """The letter with this number."""
        if not is_within(number, 0, len(self._status.letters) - 1):
            raise NoLetter(number)
        return self._status.letters[number]

    def kept(self, receiver, sender):
        """The number of the letter that a house keeps from another one, or None."""
        self._ask_for_house(receiver)
        self._ask_for_tie(sender, receiver)
        return self._status.latest.get((receiver, sender), None)

    def horizon(self, house):
        """For each house the moment up to which its news is in what a house knows, or None."""
        return self._horizon(house, None)

    def copy(self):
        """A league that goes on by itself."""
        made = League([(house, self._book_in(house)) for house in self.houses], self.ties)
        made._status = self._status
        return made

    def take_over(self, other):
        """Takes over books and letters of a copy that went on by itself."""
        self._status = other._status

    def _book_in(self, house):
        self._ask_for_house(house)
        return self._status.members[house].book

    def _tied_to(self, house):
        return tuple([name for name in self.houses if (house, name) in self.ties or (name, house) in self.ties])

    def _letters_of(self, house, left_out):
        """The letters that a house keeps, in the order of their senders, one of whom can be left
        out."""
        numbers = [self.kept(house, name) for name in self._tied_to(house) if name != left_out]
        return [self._status.letters[number] for number in numbers if number is not None]

    def _known_card(self, house, left_out):
        """The card of what a house knows, without the letter of one sender, for all spots that it
        shares; Clash."""
        # Letters tell of shared spots alone. So the card of the book for these meets their cards,
        # and the web of all that is known, which can be a large one, is not looked through.
        try:
            card = self._status.members[house].own_card()
            for letter in self._letters_of(house, left_out):
                card = card & letter[2]
        except Clash:
            raise Clash(self._web_without(house, left_out).bad_ring()) from None
        return card

    def _web_without(self, house, left_out):
        """The web of what a house knows, without the letter of one sender."""
        links = []
        for sender, _, card, _ in self._letters_of(house, left_out):
            links.extend(card_links(card, ("letter", sender)))
        return web_of(self._book_in(house)).more(links)

    def _horizon(self, house, left_out):
        found = {house: len(self._book_in(house))}
        for letter in self._letters_of(house, left_out):
            for name, moment in zip(self.houses, letter[3]):
                if moment is not None:
                    found[name] = moment
        return tuple([found.get(name, None) for name in self.houses])

    def _ask_for_house(self, house):
        if house not in self.houses:
            raise NoHouse(house)

    def _ask_for_tie(self, sender, receiver):
        if receiver not in self.neighbours(sender):
            self._ask_for_house(receiver)
            raise NoTie(sender, receiver)


class Held:
    """A context that gives a league, which is behind the block as it was when that began."""

    def __init__(self, league):
        self._league = league
        self._before = None

    def __enter__(self):
        self._before = self._league._status
        return self._league

    def __exit__(self, *told):
        league = self._league
        league._status = self._before


def attempted(league, deeds):
    """A copy of the league behind some deeds."""
    with Held(league) as held:
        for deed in list(deeds):
            _do(held, deed)
        return held.copy()


def _do(league, deed):
    if deed[0] == "enter":
        _, house, day, news = deed
        league.enter(house, day, news)
    elif deed[0] == "send":
        _, sender, receiver = deed
        league.send(sender, receiver)
    else:
        league.deliver(deed[1])
