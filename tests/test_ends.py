"""[18] the ends of a form in a web, worlds that reach them, papers, and what a paper shows."""

import random
import time
import unittest
from fractions import Fraction

from ellwarden.charters import Charter
from ellwarden.ends import End, greatest, least, shown
from ellwarden.errors import Clash, NoSpot
from ellwarden.forms import Form
from ellwarden.webs import Web
from ellwarden.worlds import GROUND
from brute import corners, fraction, told, value_of
from samples import device, feature, swapped
from test_webs import WebCase, random_web, tied

A, B, C = ("a", 0, 0), ("b", 0, 0), ("c", 0, 0)
# a from 2 to 9, b from -3 to 4, and b at most 2 above a, at least 5 below it.
WEB = Web([GROUND, A, B], tied(A, 2, 9) + tied(B, -3, 4) + [(A, B, 2, ("news", 0)), (B, A, 5, ("news", 1))])
BROKEN = Web([GROUND, A], tied(A, 5, 3))


def some_form(rng, spots, many):
    """A form of so many different spots."""
    terms = [(spot, told(Fraction(rng.choice((-1, 1)) * rng.randint(1, 9), rng.randint(1, 6)))) for spot in rng.sample(spots, many)]
    return Form(terms, told(Fraction(rng.randint(-9, 9), rng.randint(1, 4))))


def web_with_a_world(rng, many, further):
    """A web whose links are kept by a world that is made first."""
    spots = [GROUND] + [("s", 0, number) for number in range(many)]
    world = {spot: rng.randint(-20, 20) for spot in spots}
    world[GROUND] = 0
    links = []
    for spot in spots[1:]:
        links += tied(spot, world[spot] - rng.randint(0, 9), world[spot] + rng.randint(0, 9))
    for _ in range(further):
        a, b = rng.sample(spots, 2)
        links.append((a, b, world[b] - world[a] + rng.randint(0, 9), ("news", rng.randint(0, 9))))
    return Web(spots, links)


class EndCase(WebCase):
    def is_end(self, web, form, end, sign):
        """A world that reaches the value, and a paper for it; sign is -1 for a least value."""
        self.assertIsInstance(end, End)
        self.is_world(web, end.reached)
        self.assertEqual(form(end.reached), end.value)
        self.is_paper(web, form * (sign, 1), end.paper, told(sign * fraction(end.value)))

    def is_paper(self, web, form, paper, value):
        """As it is told, word for word."""
        self.assertIsInstance(paper, tuple)
        sums = {}
        total = fraction(form.rest)
        for multiplier, link in paper:
            self.assertIn(link, web.links)
            self.assertGreater(fraction(multiplier), 0)
            a, b, bound, _ = link
            sums[b] = sums.get(b, 0) + fraction(multiplier)
            sums[a] = sums.get(a, 0) - fraction(multiplier)
            total += fraction(multiplier) * bound
        sums.pop(GROUND, None)
        self.assertEqual({spot: factor for spot, factor in sums.items() if factor}, {spot: fraction(factor) for spot, factor in form.terms})
        self.assertEqual(told(total), value)
        self.assertEqual(shown(web, form, paper), value)
        self.assertEqual(shown(web, form, list(paper)), value)


class Ends(EndCase):
    def both(self, web, form, low, high):
        for end, value, sign in ((least(web, form), low, -1), (greatest(web, form), high, 1)):
            self.assertEqual(end.value, value)
            self.is_end(web, form, end, sign)

    def test_without_spots(self):
        self.both(WEB, Form(), (0, 1), (0, 1))
        self.both(WEB, Form(rest=(-7, 3)), (-7, 3), (-7, 3))
        self.assertEqual(greatest(WEB, Form(rest=(5, 1))).paper, ())
        self.both(Web([GROUND], []), Form(rest=(5, 1)), (5, 1), (5, 1))

    def test_one_spot(self):
        self.both(WEB, Form.of(A), (2, 1), (9, 1))
        self.both(WEB, Form.of(B), (-3, 1), (4, 1))
        self.both(WEB, Form([(A, (-2, 3))], (1, 2)), (-11, 2), (-5, 6))
        self.both(WEB, Form([(B, (1, 2))], (1, 1)), (-1, 2), (3, 1))

    def test_two_spots(self):
        self.both(WEB, Form.of(B) - Form.of(A), (-5, 1), (2, 1))
        self.both(WEB, Form.of(A) + Form.of(B), (-1, 1), (13, 1))
        self.both(WEB, Form([(A, (1, 1)), (B, (-2, 1))]), (-6, 1), (8, 1))
        self.both(WEB, Form([(A, (1, 3)), (B, (-1, 2))], (1, 6)), (-7, 6), (7, 3))

    def test_against_all_corners_of_the_worlds(self):
        rng = random.Random(181)
        for _ in range(150):
            web = random_web(rng, many=4, further=rng.randint(0, 12))
            if web.bad_ring() is not None:
                continue
            told_corners = corners(web)
            for many in range(5):
                form = some_form(rng, list(web.spots[1:]), many)
                values = [value_of(form.plain(), values) for values in told_corners]
                self.both(web, form, told(min(values)), told(max(values)))

    def test_six_spots_in_webs_with_more(self):
        rng = random.Random(182)
        for _ in range(25):
            web = web_with_a_world(rng, 14, 40)
            for many in (1, 3, 6, 14):
                form = some_form(rng, list(web.spots[1:]), many)
                self.is_end(web, form, greatest(web, form), 1)
                self.is_end(web, form, least(web, form), -1)

    def test_factors_with_many_digits(self):
        form = Form([(A, (10 ** 60 + 1, 7 ** 50)), (B, (-(10 ** 59), 3 ** 70))], (1, 11 ** 40))
        values = [value_of(form.plain(), values) for values in corners(WEB)]
        self.both(WEB, form, told(min(values)), told(max(values)))

    def test_the_ground_in_a_form(self):
        self.both(WEB, Form([(GROUND, (5, 1)), (A, (1, 1))]), (2, 1), (9, 1))

    def test_worlds_are_those_of_the_web_it_was_asked_of(self):
        more = WEB.more([(GROUND, A, 4, ("mark", 0))])
        self.both(more, Form.of(A) + Form.of(B), (-1, 1), (8, 1))
        self.both(WEB, Form.of(A) + Form.of(B), (-1, 1), (13, 1))


class Refusals(EndCase):
    def test_no_spot_then_clash(self):
        far = ("a", 0, 1)
        for call in (greatest, least):
            for web in (WEB, BROKEN):
                self.raises(NoSpot, lambda: call(web, Form([(("z", 0, 0), (1, 1)), (far, (1, 1)), (A, (1, 1))])), spot=far)
            for form in (Form(), Form(rest=(1, 1)), Form.of(A), Form.of(GROUND)):
                error = self.raises(Clash, lambda: call(BROKEN, form))
                self.is_ring(BROKEN, error.ring)


class Shown(EndCase):
    FORM = Form([(A, (2, 1)), (B, (-1, 2))], (1, 3))

    def setUp(self):
        self.paper = greatest(WEB, self.FORM).paper
        self.value = greatest(WEB, self.FORM).value

    def nothing(self, *papers, web=WEB, form=FORM):
        for paper in papers:
            self.assertIsNone(shown(web, form, paper), paper)

    def test_any_paper_that_comes_to_the_form(self):
        # b at least a less 5, twice; or by other links, that show less.
        down, up = (A, GROUND, -2, ("range", "a")), (GROUND, A, 9, ("range", "a"))
        form = Form.of(B)
        for paper, value in (
            ([((1, 1), (GROUND, B, 4, ("range", "b")))], (4, 1)), ([((1, 1), (A, B, 2, ("news", 0))), ((1, 1), up)], (11, 1)),
            ((((1, 2), (A, B, 2, ("news", 0))), ((1, 2), up), ((1, 2), (GROUND, B, 4, ("range", "b")))), (15, 2)),
            ((((1, 2), (GROUND, B, 4, ("range", "b"))), ((1, 2), (GROUND, B, 4, ("range", "b")))), (4, 1)),
            ([((1, 1), (GROUND, B, 4, ("range", "b"))), ((3, 1), up), ((3, 1), down)], (25, 1)),
        ):
            self.assertEqual(shown(WEB, form, paper), value)
        self.assertEqual(shown(WEB, Form(), []), (0, 1))
        self.assertEqual(shown(WEB, Form(rest=(5, 2)), ()), (5, 2))
        self.assertEqual(shown(WEB, Form(rest=(5, 2)), [((1, 3), up), ((1, 3), down)]), (29, 6))

    def test_what_is_no_row(self):
        self.nothing(None, 5, "", "paper", {}, self.paper[0], True, iter(self.paper), set(self.paper))

    def test_what_is_no_pair(self):
        multiplier, link = self.paper[0]
        for pair in (None, 5, (), (multiplier,), (multiplier, link, 1), [multiplier, link], (link, multiplier), "ab", link):
            self.nothing((pair,) + self.paper[1:], self.paper + (pair,))

    def test_multipliers(self):
        link = self.paper[0][1]
        for multiplier in (None, 1, 0, (0, 1), (-1, 2), (2, 2), (1, 0), (1, -1), (True, 1), (1, True), [1, 1], "1"):
            self.nothing(((multiplier, link),) + self.paper[1:], self.paper + ((multiplier, link),))

    def test_links_that_are_not_there(self):
        for place, (multiplier, link) in enumerate(self.paper):
            a, b, bound, why = link
            for other in (
                None, (), list(link), link[:3], link + (1,), (b, a, bound, why), (a, b, bound + 1, why), (a, b, bound - 1, why), (a, b, bound, ("other", 1)), (a, b, bound, list(why)),
                (a, b, str(bound), why), (list(a), b, bound, why), (a, list(b), bound, why), (a, b, bound, ()), (("z", 0, 0), b, bound, why), (a, a, bound, why), (a, b, float(bound), why),
            ):
                self.nothing(swapped(self.paper, place, (multiplier, other)))

    def test_true_is_not_1(self):
        web = Web([GROUND, ("a", 1, 0)], [(GROUND, ("a", 1, 0), 1, ("news", 1)), (("a", 1, 0), GROUND, 0, ("news", 0))])
        form = Form.of(("a", 1, 0))
        self.assertEqual(shown(web, form, [((1, 1), (GROUND, ("a", 1, 0), 1, ("news", 1)))]), (1, 1))
        for link in ((GROUND, ("a", True, 0), 1, ("news", 1)), (GROUND, ("a", 1, 0), True, ("news", 1)), (GROUND, ("a", 1, 0), 1, ("news", True)), (("ground", False, 0), ("a", 1, 0), 1, ("news", 1))):
            self.nothing([((1, 1), link)], web=web, form=form)

    def test_what_comes_to_another_form(self):
        for place, (multiplier, link) in enumerate(self.paper):
            more = told(fraction(multiplier) + Fraction(1, 7))
            self.nothing(self.paper[:place] + self.paper[place + 1:], swapped(self.paper, place, (more, link)), self.paper + ((multiplier, link),))
        self.nothing((), ((1, 1),))
        for form in (-self.FORM, self.FORM + Form.of(A), Form(), Form(rest=(1, 3)), self.FORM * (2, 1)):
            self.nothing(self.paper, form=form)
        # Another rest is no other form to come to.
        self.assertEqual(shown(WEB, self.FORM + Form(rest=(1, 1)), self.paper), told(fraction(self.value) + 1))

    def test_it_raises_no_error(self):
        far = Form.of(("z", 0, 0))
        self.nothing((), self.paper, form=far)
        self.nothing((), form=far, web=BROKEN)
        self.assertEqual(shown(BROKEN, Form.of(A), [((1, 1), (GROUND, A, 3, ("range", "a")))]), (3, 1))
        self.assertEqual(shown(BROKEN, Form(), [((1, 1), (GROUND, A, 3, ("range", "a"))), ((1, 1), (A, GROUND, -5, ("range", "a")))]), (-2, 1))


class WhatTakesLong(EndCase):
    def test_six_spots_among_forty_and_more(self):
        rng = random.Random(183)
        charter = Charter(
            days=4, bases=("length",), devices=[device(name, step=1, slack=9, fall=3, rise=4, steep=5, cuts=(3, 6)) for name in ("arm", "bow", "cut")],
            features=[feature(name, fall=2, rise=3) for name in ("dot", "eye")],
        )
        spots = charter.all_spots()
        self.assertEqual(len(spots), 45)
        began = time.perf_counter()
        for _ in range(20):
            # Links that a world keeps in which all things lie close together.
            world = {spot: rng.randint(20, 22) for spot in spots}
            ends = [rng.sample(spots[1:], 2) for _ in range(60)]
            links = [(a, b, world[b] - world[a] + rng.randint(0, 4), ("news", 0)) for a, b in ends]
            web = Web(spots, charter.own_links() + tuple(links))
            form = some_form(rng, list(spots[1:]), 6)
            self.is_end(web, form, greatest(web, form), 1)
            self.is_end(web, form, least(web, form), -1)
        self.assertLess(time.perf_counter() - began, 20)

    def test_all_spots_of_a_web(self):
        rng = random.Random(184)
        web = web_with_a_world(rng, 40, 100)
        form = some_form(rng, list(web.spots[1:]), 40)
        self.is_end(web, form, greatest(web, form), 1)


if __name__ == "__main__":
    unittest.main()
