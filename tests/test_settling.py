"""[39] books of a league together, stale ties, settling, and what is denied in a house; [38] its last sentence."""

import random
import time
import unittest

from ellwarden.books import Book
from ellwarden.bookwebs import web_of
from ellwarden.cards import card_of
from ellwarden.claims import denies
from ellwarden.errors import Clash, NoHouse, NoMoment
from ellwarden.leagues import League
from ellwarden.settling import denied, joined, settle, stale
from ellwarden.standing import Fallen, denying
from ellwarden.webs import Web
from ellwarden.worlds import GROUND
from leaguesamples import BORE, CERT, DIAL, PAIRS, PEG, card_now, charter, enter_some, known_without, random_league, some_deeds, state_of, three
from samples import STRANGE, feature, spot_form
from test_webs import WebCase

NARROW = ("cert", "bore", 0, 0, 1, 1, "ground", 0, 40, 50)


def told_ties(league):
    return [one for tie in league.ties for one in (tie, tie[::-1])]


def plain_stale(league, tie):
    """Whether a tie is stale, as it is told; one along which a house in a clash sends is."""
    sender, receiver = tie
    number = league.kept(receiver, sender)
    return number is None or card_now(league, sender, receiver) is None or league.letter(number)[2] != card_now(league, sender, receiver)


def ties_above(league, tie):
    """All ties above a tie."""
    sender, receiver = tie
    found = []
    for other in league.neighbours(sender):
        if other != receiver:
            found += [(other, sender)] + ties_above(league, (other, sender))
    return found


def plain_settle(league):
    """As it is told, word for word; the ties that are used, and the one that clashes or None."""
    went = []
    while True:
        for tie in told_ties(league):
            if not any(plain_stale(league, other) for other in ties_above(league, tie)) and plain_stale(league, tie):
                break
        else:
            return went, None
        if card_now(league, *tie) is None:
            return went, tie
        league.deliver(league.send(*tie))
        went.append(tie)


class Joined(WebCase):
    def setUp(self):
        self.league = three()
        self.league.enter("anna", 0, CERT)
        self.league.enter("anna", 1, ("jolt", "bore", 1))
        self.league.enter("cora", 0, ("jolt", "peg", 2))

    def test_the_sum_of_webs_in_the_order_of_the_houses(self):
        webs = {}
        for name, moments in (("anna", (0, 1, 2)), ("bert", (0,)), ("cora", (0, 1))):
            for moment in moments:
                webs[name, moment] = web_of(self.league.book_of(name), moment)
        for a in (0, 1, 2):
            for c in (0, 1):
                for row in ((a, 0, c), [a, 0, c]):
                    self.assertEqual(joined(self.league, row), webs["anna", a] + webs["bert", 0] + webs["cora", c])
            self.assertEqual(joined(self.league, (a, None, None)), webs["anna", a])
            self.assertEqual(joined(self.league, (a, None, 1)), webs["anna", a] + webs["cora", 1])
        self.assertEqual(joined(self.league, (None, 0, 0)), webs["bert", 0] + webs["cora", 0])
        self.assertEqual(joined(self.league, (None, None, 0)), webs["cora", 0])
        self.assertIsInstance(joined(self.league, (0, 0, 0)), Web)

    def test_none_everywhere(self):
        self.assertEqual(joined(self.league, (None, None, None)), Web([GROUND], []))
        self.assertEqual(joined(League(PAIRS[:1]), [None]), Web([GROUND], []))

    def test_too_few_and_too_many_moments(self):
        for row in ((), (0,), (0, 0), (0, 0, 0, 0), (9, 9), (True,), [None] * 4, [None] * 2):
            self.raises(NoMoment, lambda: joined(self.league, row), moment=None)

    def test_moments_that_are_none_of_their_book(self):
        for place, most in enumerate((2, 0, 1)):
            for moment in (most + 1, -1, "0", True, False, 1.0, (), (0,)):
                row = [0, 0, 0]
                row[place] = moment
                self.raises(NoMoment, lambda: joined(self.league, row), moment=moment)
                # The first one.
                self.raises(NoMoment, lambda: joined(self.league, row[:place + 1] + [99] * (2 - place)), moment=moment)

    def test_books_that_clash_together(self):
        self.league.enter("bert", 0, NARROW)
        web = joined(self.league, (1, 1, None))
        self.is_ring(web, web.bad_ring())
        self.assertIsNone(joined(self.league, (0, 1, 0)).bad_ring())


class Stale(WebCase):
    def test_never_sent_sent_and_delivered(self):
        league = three()
        told = (("anna", "bert"), ("bert", "anna"), ("cora", "bert"), ("bert", "cora"))
        self.assertEqual(stale(league), told)
        self.assertIs(type(stale(league)), tuple)
        for number, tie in enumerate(told):
            league.send(*tie)
            self.assertEqual(stale(league), told)
        # Letters that say nothing new.
        for number in (1, 3, 0, 2):
            league.deliver(number)
            self.assertEqual(stale(league), tuple(tie for at, tie in enumerate(told) if league.kept(tie[1], tie[0]) is None))
        self.assertEqual(stale(league), ())

    def test_another_card_and_an_equal_one(self):
        league = three()
        settle(league)
        self.assertEqual(stale(league), ())
        # It tells nothing of what is shared.
        league.enter("anna", 0, ("cert", "slot", 0, 0, 0, 0, "ground", 0, 5, 6))
        self.assertEqual(stale(league), ())
        league.enter("anna", 0, CERT)
        self.assertEqual(stale(league), (("anna", "bert"),))
        league.deliver(league.send("anna", "bert"))
        # Bert and cora share nothing that depends on the bore.
        self.assertEqual(stale(league), ())
        league.enter("bert", 0, ("cert", "bore", 0, 0, 1, 1, "peg", 0, 0, 1))
        # With what anna tells, the peg is 19 to 30 on day 1; without it, bert knows nothing new of the bore.
        self.assertEqual(stale(league), (("bert", "cora"),))
        league.enter("bert", 0, ("strike", 0))
        self.assertEqual(stale(league), ())

    def test_an_elder_letter_with_an_equal_card(self):
        league = three()
        league.enter("anna", 0, CERT)
        league.deliver(league.send("anna", "bert"))
        league.enter("anna", 0, ("strike", 0))
        self.assertIn(("anna", "bert"), stale(league))
        league.enter("anna", 0, ("strike", 1))
        self.assertNotIn(("anna", "bert"), stale(league))

    def test_no_ties(self):
        self.assertEqual(stale(League(PAIRS[:1])), ())
        self.assertEqual(settle(League(PAIRS[:1])), ())
        self.assertEqual(settle(League([("anna", Book(charter())), ("bert", Book(charter()))])), ())

    def test_a_sender_in_a_clash(self):
        league = three()
        league.enter("bert", 0, CERT)
        league.enter("bert", 0, NARROW)
        # Anna sends no stale letter; bert is the first who cannot.
        league.deliver(league.send("anna", "bert"))
        web = known_without(league, "bert", "anna")
        self.is_ring(web, self.raises(Clash, lambda: stale(league)).ring)
        # Also where its letter is kept already: with it the clash is found by that letter.
        league = three()
        league.enter("bert", 0, CERT)
        settle(league)
        league.enter("anna", 0, NARROW)
        league.deliver(league.send("anna", "bert"))
        web = known_without(league, "bert", "cora")
        before = state_of(league)
        self.is_ring(web, self.raises(Clash, lambda: stale(league)).ring)
        self.assertEqual(state_of(league), before)

    def test_the_first_tie_in_the_order_told(self):
        for ties in ((("anna", "bert"), ("cora", "bert")), (("bert", "cora"), ("bert", "anna"))):
            league = three(ties)
            for name, thing in (("anna", "slot"), ("cora", "peg")):
                for low in (10, 60):
                    league.enter(name, 0, ("cert", thing, 0, 0, 0, 0, "ground", 0, low, low + 1))
            first = [tie for tie in told_ties(league) if tie[0] != "bert"][0]
            ring = self.raises(Clash, lambda: stale(league)).ring
            self.is_ring(known_without(league, *first), ring)

    def test_random_leagues(self):
        rng = random.Random(1)
        for _ in range(40):
            league = random_league(rng, rng.randint(2, 5))
            for _ in range(4):
                some_deeds(rng, league, 5)
                cards = [card_now(league, *tie) for tie in told_ties(league)]
                if None in cards:
                    tie = told_ties(league)[cards.index(None)]
                    self.is_ring(known_without(league, *tie), self.raises(Clash, lambda: stale(league)).ring)
                else:
                    self.assertEqual(stale(league), tuple(tie for tie in told_ties(league) if plain_stale(league, tie)))


class Settling(WebCase):
    def settles(self, league):
        """It goes as it is told, and settles the league."""
        plain = league.copy()
        went, clash = plain_settle(plain)
        before = state_of(league)
        if clash is not None:
            web = known_without(plain, *clash)
            self.is_ring(web, self.raises(Clash, lambda: settle(league)).ring)
            self.assertEqual(state_of(league), before)
            return None
        kept = {tie: league.kept(tie[1], tie[0]) for tie in told_ties(league)}
        cards = {tie: None if number is None else league.letter(number)[2] for tie, number in kept.items()}
        many = len(league)
        found = settle(league)
        self.assertIs(type(found), tuple)
        self.assertEqual(found, tuple(went))
        # Each tie once, and none that brings what is kept already.
        self.assertEqual(len(set(found)), len(found))
        self.assertEqual(len(league), many + len(found))
        for number, tie in enumerate(found):
            self.assertEqual(league.letter(many + number)[:2], tie)
            self.assertEqual(league.kept(tie[1], tie[0]), many + number)
            self.assertNotEqual(league.letter(many + number)[2], cards[tie])
        self.assertEqual(stale(league), ())
        self.assertEqual(state_of(league), state_of(plain))
        self.assertEqual(settle(league), ())
        self.assertEqual(len(league), many + len(found))
        return found

    def test_the_order_of_letters(self):
        league = three()
        # Bert sends to anna when cora has told him, and to cora when anna has.
        first, second = ("anna", "bert"), ("cora", "bert")
        self.assertEqual(self.settles(league), (("anna", "bert"), ("cora", "bert"), ("bert", "anna"), ("bert", "cora")))
        self.assertEqual(self.settles(three((second[::-1], first[::-1]))), (second, first[::-1], first, second[::-1]))
        self.assertEqual(self.settles(three((second, first[::-1]))), (second, first[::-1], first, second[::-1]))
        self.assertEqual(self.settles(three((second, first))), (second, first, second[::-1], first[::-1]))
        self.assertEqual(self.settles(three((first[::-1], second[::-1]))), (first, second[::-1], second, first[::-1]))

    def test_two_houses(self):
        for ties in ([("anna", "bert")], [("bert", "anna")]):
            self.assertEqual(self.settles(League(PAIRS[:2], ties)), (ties[0], ties[0][::-1]))

    def test_news_and_withdrawals_between_two_settlings(self):
        league = three()
        settle(league)
        league.enter("cora", 0, ("cert", "peg", 0, 0, 1, 1, "ground", 0, 3, 4))
        self.assertEqual(self.settles(league), (("cora", "bert"),))
        league.enter("bert", 0, ("cert", "bore", 0, 0, 1, 1, "peg", 0, 0, 1))
        self.assertEqual(self.settles(league), (("bert", "anna"),))
        self.assertEqual(league.knows("anna").bound(GROUND, ("bore", 0, 1)), 5)
        league.enter("cora", 0, ("strike", 0))
        self.assertEqual(self.settles(league), (("cora", "bert"), ("bert", "anna")))
        self.assertGreater(league.knows("anna").bound(GROUND, ("bore", 0, 1)), 5)
        league.enter("cora", 0, ("strike", 1))
        self.assertEqual(self.settles(league), (("cora", "bert"), ("bert", "anna")))
        self.assertEqual(league.knows("anna").bound(GROUND, ("bore", 0, 1)), 5)

    def test_a_clash_at_the_tie_that_is_to_be_used(self):
        league = three()
        league.enter("anna", 0, CERT)
        league.enter("cora", 0, ("cert", "peg", 0, 0, 1, 1, "ground", 0, 3, 4))
        league.enter("bert", 0, ("cert", "bore", 0, 0, 1, 1, "peg", 0, 0, 1))
        # Bert is in a clash with what both tell him, but not with what one of them does.
        self.assertEqual(plain_settle(league.copy()), ([("anna", "bert"), ("cora", "bert"), ("bert", "anna"), ("bert", "cora")], None))
        self.settles(league)
        web = league.knows("bert")
        self.is_ring(web, web.bad_ring())
        league = three()
        league.enter("bert", 0, CERT)
        league.enter("bert", 0, NARROW)
        self.assertIsNone(self.settles(league))
        self.assertEqual(len(league), 0)

    def test_a_clash_that_heals_by_an_elder_letter(self):
        # Bert keeps an elder letter of anna that clashes with his news; she would tell another one now.
        league = three()
        league.enter("anna", 0, NARROW)
        league.deliver(league.send("anna", "bert"))
        league.enter("anna", 0, ("strike", 0))
        league.enter("bert", 0, CERT)
        self.raises(Clash, lambda: stale(league))
        self.assertEqual(self.settles(league), (("anna", "bert"), ("cora", "bert"), ("bert", "anna"), ("bert", "cora")))
        # Also where the tie that clashes is told first.
        league = three((("bert", "cora"), ("bert", "anna")))
        league.enter("anna", 0, NARROW)
        league.deliver(league.send("anna", "bert"))
        league.enter("anna", 0, ("strike", 0))
        league.enter("bert", 0, CERT)
        self.raises(Clash, lambda: stale(league))
        self.assertEqual(self.settles(league), (("cora", "bert"), ("bert", "anna"), ("anna", "bert"), ("bert", "cora")))

    def test_a_fresh_tie_told_late_above_a_stale_one_told_early(self):
        # The tie from bert to anna is stale and told first, below one that is told last and is fresh.
        league = League(PAIRS, (("bert", "anna"), ("cora", "bert")))
        settle(league)
        league.enter("bert", 0, CERT)
        league.enter("anna", 0, ("cert", "bore", 0, 0, 1, 1, "ground", 0, 25, 26))
        self.assertEqual(self.settles(league), (("bert", "anna"), ("anna", "bert")))

    def test_random_leagues(self):
        rng = random.Random(39)
        clashes = 0
        lengths = []
        for _ in range(50):
            league = random_league(rng, rng.randint(2, 5), narrow=rng.random() < 0.3)
            for _ in range(3):
                found = self.settles(league)
                if found is None:
                    clashes += 1
                else:
                    lengths.append(len(found))
                if rng.random() < 0.3:
                    some_deeds(rng, league, 3)
                enter_some(rng, league, rng.choice(league.houses), narrow=rng.random() < 0.3)
        self.assertGreater(clashes, 8)
        self.assertGreater(len(set(lengths)), 4)

    def test_what_houses_know_is_what_all_books_say_together(self):
        rng = random.Random(40)
        settled = 0
        for _ in range(40):
            league = random_league(rng, rng.randint(2, 5))
            some_deeds(rng, league, 8)
            try:
                settle(league)
            except Clash:
                continue
            whole = joined(league, [len(league.book_of(name)) for name in league.houses])
            for name in league.houses:
                web = league.knows(name)
                self.assertEqual(web.bad_ring() is None, whole.bad_ring() is None)
                if whole.bad_ring() is None:
                    settled += 1
                    spots = league.book_of(name).charter.all_spots()
                    self.assertEqual(card_of(web, spots), card_of(whole, spots))
        self.assertGreater(settled, 40)

    def test_houses_that_no_ties_join(self):
        pairs = PAIRS[:2] + (("dora", Book(charter((), (feature("lone"),)))), ("emil", Book(charter((), (feature("only"),)))))
        league = League(pairs, [("anna", "bert"), ("dora", "emil")])
        league.enter("dora", 0, ("cert", "lone", 0, 0, 0, 0, "ground", 0, 5, 6))
        self.assertEqual(self.settles(league), (("anna", "bert"), ("bert", "anna"), ("dora", "emil"), ("emil", "dora")))
        self.assertEqual(league.horizon("anna"), (0, 0, None, None))
        self.assertEqual(league.horizon("emil"), (None, None, 1, 0))


def told(low, high, name="bore"):
    return ("told", ("within", ("sum", spot_form((name, 0, 1)), (1, 0)), (low, 1), (high, 1)))


class Denied(WebCase):
    def test_tellings_that_a_world_denies(self):
        league = three()
        league.enter("anna", 0, CERT)
        for numbers in ((20, 30), (22, 30), (0, 29), (25, 26), (0, 100)):
            league.enter("anna", 0, told(*numbers))
        league.enter("anna", 0, ("strike", 3))
        found = denied(league, "anna")
        self.assertIs(type(found), tuple)
        self.assertEqual([number for number, _ in found], [2, 4])
        for number, world in found:
            self.is_world(league.knows("anna"), world)
            self.assertTrue(denies(world, league.book_of("anna")[number][1][1]))
        self.assertEqual(denied(league, "bert"), ())

    def test_what_a_letter_tells(self):
        league = three()
        league.enter("bert", 0, told(20, 30))
        league.enter("bert", 0, told(25, 26))
        self.assertEqual([number for number, _ in denied(league, "bert")], [0, 1])
        league.enter("anna", 0, CERT)
        self.assertEqual([number for number, _ in denied(league, "bert")], [0, 1])
        league.deliver(league.send("anna", "bert"))
        self.assertEqual([number for number, _ in denied(league, "bert")], [1])
        league.enter("anna", 0, ("strike", 0))
        self.assertEqual([number for number, _ in denied(league, "bert")], [1])
        settle(league)
        self.assertEqual([number for number, _ in denied(league, "bert")], [0, 1])

    def test_as_fallen_tellings_where_there_is_no_letter(self):
        league = League(PAIRS[:1])
        league.enter("anna", 0, CERT)
        for numbers in ((20, 30), (22, 30)):
            league.enter("anna", 0, told(*numbers))
        self.assertEqual([number for number, _ in denied(league, "anna")], [number for number, _ in Fallen(league.book_of("anna"))])

    def test_no_house_then_clash(self):
        league = three()
        league.enter("anna", 0, CERT)
        league.enter("bert", 0, NARROW)
        league.deliver(league.send("anna", "bert"))
        for name in ("dora", "dial") + STRANGE:
            self.raises(NoHouse, lambda: denied(league, name), name=name)
        self.is_ring(league.knows("bert"), self.raises(Clash, lambda: denied(league, "bert")).ring)
        self.assertEqual(denied(league, "anna"), ())

    def test_against_all_books_together(self):
        rng = random.Random(41)
        seen = {True: 0, False: 0}
        for _ in range(30):
            league = random_league(rng, rng.randint(2, 4))
            for _ in range(6):
                name = rng.choice(league.houses)
                spots = rng.sample(league.book_of(name).charter.all_spots()[1:], 2)
                low = rng.randint(-40, 40)
                quantity = ("sum", spot_form(*spots), (1, 0)) if rng.random() < 0.5 else ("product", spot_form(spots[0]), spot_form(spots[1]), (1, 1), (2, 0))
                league.enter(name, 2, ("told", ("within", quantity, (low, 1), (low + rng.randint(50, 300), 1))))
            try:
                settle(league)
            except Clash:
                continue
            whole = joined(league, [len(league.book_of(name)) for name in league.houses])
            if whole.bad_ring() is not None:
                continue
            for name in league.houses:
                book = league.book_of(name)
                numbers = []
                for number in book.in_force():
                    if book[number][1][0] == "told":
                        fallen = denying(whole, book[number][1][1]) is not None
                        seen[fallen] += 1
                        if fallen:
                            numbers.append(number)
                self.assertEqual([number for number, _ in denied(league, name)], numbers)
        self.assertGreater(min(seen.values()), 10)


class Speed(WebCase):
    def test_five_houses(self):
        things = charter((DIAL,), (BORE, PEG), days=20)
        names = ("anna", "bert", "cora", "dora", "emil")
        for ties in ([("anna", name) for name in names[1:]], list(zip(names, names[1:]))):
            league = League([(name, Book(things)) for name in names], ties)
            for number, name in enumerate(names):
                league.enter(name, 0, ("cert", "bore", 0, 0, number, number + 3, "ground", 0, 20 + number, 60))
            start = time.time()
            self.assertEqual(len(settle(league)), 8)
            self.assertEqual(settle(league), ())
            self.assertLess(time.time() - start, 20)


if __name__ == "__main__":
    unittest.main()
