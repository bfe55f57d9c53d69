"""The whole document: for each point from [1] to [48] one test that goes through several modules."""

import itertools
import random
import unittest

from ellwarden.books import Book, Trial, tried
from ellwarden.booktext import read_book, write_book, write_claim
from ellwarden.bookwebs import bearing, links_of, web_of, web_without
from ellwarden.cards import card_of, pressed
from ellwarden.cardtext import read_card, write_card
from ellwarden.charters import Charter
from ellwarden.charts import behind, chart_of, danger, kept_marks, parting_marks, pruned
from ellwarden.claims import denies, is_bad, is_good, value_in
from ellwarden.dims import read_product, write_product
from ellwarden.ends import greatest, least, shown
from ellwarden.errors import BadCharter, BadDay, BadLine, BadNews, BadStep, Clash, EllError, NoNews, NoQuotient, NoSpot, Ring, TooLarge, TooLong, TooMany, Twice
from ellwarden.expressions import kind_of, quantity_of, readings, steps_of
from ellwarden.forms import Form
from ellwarden.grains import finer, finer_charter
from ellwarden.grounds import bears, doubts, felling, ground, grounds, leaning
from ellwarden.leagues import Held, League, attempted
from ellwarden.marks import marks_in, reading_links, stretch_of
from ellwarden.names import WORDS, is_name
from ellwarden.parting import parted, parter
from ellwarden.pieces import follows, pieces, put_together, slim
from ellwarden.plans import answer, plan
from ellwarden.probes import fewest, judge_paper, pair, paper, settles
from ellwarden.quantities import ends, verdict
from ellwarden.ratios import compare, over, ratio, read_ratio, times, write_ratio
from ellwarden.reading import read_charter, read_procedure
from ellwarden.rosters import does, roster, stands
from ellwarden.settling import denied, joined, settle, stale
from ellwarden.shadows import Shadow
from ellwarden.slips import Slip, enter_run, retold, slip_of
from ellwarden.standing import Fallen, blame, denying, history, state
from ellwarden.webs import Web
from ellwarden.worlds import GROUND, World, higher, lower
from ellwarden.writing import write_charter, write_procedure
from samples import Case, LINES

HOUSE = """days 4
base length
base time
unit mm length 1000
unit um length 1
unit s time 10
unit pace length/time 100
device caliper length 0 9 200 130 -300 300 5 5 40 5
device gage length 0 19 100 60 -50 50 2 2 0
device clock time -5 5 10 6 -20 20 1 1 0
feature bore length 500 1900 0 0
feature pin length 400 1800 3 0
feature beat time 5 40 1 1
role first length
role second length
role watch time
job fit
job clear
job speed
procedure fitone
takes hole length
uses tool length
read hole by tool
choose size hole good 1 mm bad 6/5 mm
open
read hole by tool
end
judge small size hole good 1 mm bad 6/5 mm
tell hole size hole in mm
end
procedure play
takes hole length
takes shaft length
uses tool length
uses other length
read hole by tool
read shaft by other
let gap be size hole - size shaft
judge fits gap good 1/10 mm bad 0 mm
tell gap gap in um
tell area size hole * size shaft in mm^2
end
procedure run
takes hole length
takes beat time
uses watch time
call rest takes beat uses watch
tell pace size hole / size beat in pace
end
procedure rest
takes beat time
uses watch time
read beat by watch
end""".splitlines()
NEWS = """news 0 stand first caliper 0 3
news 0 stand second gage 0 3
news 0 stand watch clock 0 3
news 0 edition fit fitone 0 3
news 0 edition clear play 0 3
news 0 edition speed run 0 3
news 0 cert caliper 0 1 0 0 ground 0 -120 120
news 0 cert gage 0 0 0 1 ground 0 -5 5
news 1 read bore first 1 6
news 1 read pin second 1 8
news 2 cert clock 0 0 0 3 ground 0 -2 2""".splitlines()
BORE, PIN, BEAT = ("bore", 0, 1), ("pin", 0, 1), ("beat", 0, 1)


def the_book(*more):
    """The book of the house, with further news."""
    return read_book(HOUSE + NEWS + list(more))


def within(spot, low, high):
    return ("within", ("sum", Form.of(spot).plain(), (1, 0)), (low, 1), (high, 1))


class Whole(Case):
    def setUp(self):
        self.book = the_book()
        self.web = web_of(self.book)

    def fit(self, marks, book=None, day=1, moment=None):
        return slip_of(self.book if book is None else book, "fit", day, ["bore"], ["first"], moment)(marks)

    def play(self, marks, book=None, moment=None):
        return slip_of(self.book if book is None else book, "clear", 1, ["bore", "pin"], ["first", "second"], moment)(marks)

    def test_01_what_is_known_late_and_what_is_not_changed(self):
        run = self.fit([5, 5])
        self.assertEqual(run.kind, "done")
        numbers = enter_run(self.book, 2, run)
        claims = [number for number in numbers if self.book[number][1][0] == "told"]
        self.assertEqual(len(Fallen(self.book)), 0)
        # Late news: on day 0 another device stood there.
        self.book.enter(3, ("stand", "first", "gage", 0, 3))
        self.assertEqual([number for number, _ in Fallen(self.book)], claims)
        self.assertEqual([history(self.book, number)[-2:] for number in claims], [("stands", "denied")] * len(claims))
        before = tuple(self.book)
        for news in (("jolt", "bore", 0), ("strike", 99), ("read", "bore", "watch", 0, 0), None):
            with self.assertRaises(EllError):
                self.book.enter(3, news)
        self.raises(BadDay, lambda: enter_run(self.book, 0, run), day=0)
        with Trial(self.book) as held:
            held.enter(3, ("strike", len(before) - 1))
            self.assertEqual(len(Fallen(held)), 0)
        self.assertEqual(tuple(self.book), before)

    def test_02_ratios_are_exact(self):
        run = self.play([5, 8])
        told = {row[1]: row[2:] for row in run.rows if row[0] == "told"}
        low, high, unit = told["area"]
        units = self.book.charter.system()
        for number, end in zip((low, high), run.evidence(2)):
            self.assertEqual(read_ratio(write_ratio(number)), number)
            self.assertEqual(times(number, units.factor_of(unit)), end.value)
        product = ratio(1)
        for end in (end.value for end in run.evidence(2)):
            product = times(product, end)
        self.assertEqual(over(product, product), (1, 1))

    def test_03_units_in_which_the_same_is_told(self):
        units = self.book.charter.system()
        for text in ("mm^2", "mm*um", "um^2", "length^2", "mm*length"):
            self.assertEqual(units.dimension_of(text), (2, 0))
            main = ("main", (("one", "length"),), (), (("tell", "x", ("times", ("size", "one"), ("size", "one")), text),))
            charter = self.book.charter.changed(procedures=(main,), jobs=())
            run = Slip(charter, "main", 1, ["bore"], [], self.web)([])
            self.assertEqual([times(number, units.factor_of(text)) for number in run.rows[0][2:4]], [end.value for end in run.evidence(0)])
            self.assertEqual([units.number_in(units.amount(number, text), "um^2") for number in run.rows[0][2:4]], [end.value for end in run.evidence(0)])

    def test_04_product_texts(self):
        charter = self.book.charter
        units = charter.system()
        names = sorted(units)
        for text, one in (("mm/s*s^-1", "mm/s^2"), ("s*mm/s", "mm"), ("1*um", "um"), ("mm*mm", "mm^2"), ("s/s", "1")):
            self.assertEqual(units.one_form(text), one)
            self.assertEqual(write_product(names, read_product(text, names)), one)
            self.assertEqual(units.factor_of(text), units.factor_of(one))
        # Dimensions of charters and of claims are written so.
        self.assertIn("unit pace length/time 100", write_charter(charter))
        claim = ("within", ("quotient", Form.of(BORE).plain(), Form.of(BEAT).plain(), (1, 1), (1, -1)), (0, 1), (1, 1))
        self.assertIn(" length/time ", write_claim(charter, claim))

    def test_05_amounts_in_finer_grains(self):
        units = self.book.charter.system()
        for base in ("length", "time"):
            self.assertEqual(units.finer(base, 7), finer_charter(self.book.charter, base, 7).system())
            for text in ("mm", "s", "pace", "mm^2/s"):
                amount = units.amount((3, 4), text)
                other = units.finer(base, 7).amount((3, 4), text)
                self.assertEqual(units.number_in(amount, text), units.finer(base, 7).number_in(other, text))
        self.assertEqual(finer(self.book, "length", 7).charter.system(), units.finer("length", 7))

    def test_06_stretches_of_marks(self):
        charter = read_charter(HOUSE)
        device = charter["caliper"]
        for mark in range(10):
            run = self.fit([mark], day=0)
            if run.kind != "clash":
                spots = {spot for link in run.web.links[len(run.slip.web):] for spot in link[:2]}
                self.assertEqual(spots, {("caliper", stretch_of(device, mark), 0), ("bore", 0, 0)})
        self.assertEqual([spot for spot in self.fit([]).slip.own_spots() if spot[0] == "caliper"], [("caliper", 0, 1), ("caliper", 1, 1)])

    def test_07_charters_that_are_refused(self):
        lines = list(HOUSE)
        for at, line, error in (
            (0, "days 21", BadCharter), (3, "unit mm length 0", BadCharter), (7, "device caliper length 9 0 200 130 -300 300 5 5 40 5", BadCharter), (10, "feature caliper length 500 1900 0 0", Twice),
            (12, "feature beat mass 5 40 1 1", BadCharter), (19, "procedure speed", Twice), (22, "read hole by shaft", BadStep),
        ):
            self.assertTrue(lines[at].split()[0] == line.split()[0])
            self.raises(error, lambda: read_charter(lines[:at] + [line] + lines[at + 1:]))
            self.raises(error, lambda: read_book(lines[:at] + [line] + lines[at + 1:] + NEWS))
        self.raises(TooMany, lambda: read_charter(["days 1"] + [f"base {name}" for name in ("a", "b", "c", "d", "f")]), kind="bases")

    def test_08_spots_in_their_order(self):
        spots = self.book.charter.all_spots()
        self.assertEqual(self.web.spots, spots)
        self.assertEqual(tuple(self.web.highest()), spots)
        self.assertEqual(card_of(self.web, spots).spots, spots)
        self.assertEqual(read_card(write_card(card_of(self.web, spots))).spots, spots)
        self.assertEqual(len(spots), 1 + 4 * (2 + 1 + 1 + 3))

    def test_09_worlds_keep_the_links_of_the_charter(self):
        for world in (self.web.highest(), self.web.lowest(), self.web.reaching(BORE, PIN)):
            for link in self.book.charter.own_links():
                self.assertTrue(world.keeps(link))
        whole = Web(self.book.charter.all_spots(), self.book.charter.own_links())
        self.assertEqual(whole.bound(("caliper", 0, 0), ("caliper", 1, 2)), 40 + 10)
        self.assertEqual(whole.highest()[BORE], (1900, 1))

    def test_10_each_world_lets_a_device_show_a_mark(self):
        chart = chart_of(slip_of(self.book, "clear", 1, ["bore", "pin"], ["first", "second"]))
        for world in (self.web.highest(), self.web.lowest(), self.web.reaching(PIN, BORE), self.web.reaching(BORE, PIN)):
            marks = [marks_in(world, self.book.charter[name], feature, 1) for name, feature in (("caliper", "bore"), ("gage", "pin"))]
            self.assertTrue(marks[0] and marks[1])
            for row in itertools.product(*marks):
                self.assertEqual(behind(chart, row)[0], "end")
                self.assertTrue(self.play(row).web.allows(world))

    def test_11_news_of_any_day_known_on_a_day(self):
        book = the_book("news 3 cert bore 0 0 0 0 ground 0 1000 1050")
        self.assertEqual([book.moment_of(day) for day in range(4)], [8, 10, 11, 12])
        self.assertEqual(web_of(book).bound(GROUND, BORE), 1050)
        self.assertEqual(web_of(book, book.moment_of(2)), self.web)
        copies = tried(book, [[(3, ("strike", 11))], [(3, ("strike", 12))]])
        self.assertEqual([web_of(copy).bound(GROUND, BORE) == 1050 for copy in copies], [False, True, False])

    def test_12_news_that_is_refused(self):
        for line, error, kept in (
            ("news 2 cert caliper 0 2 0 0 ground 0 0 0", BadNews, {"place": 3}), ("news 2 read bore watch 0 0", BadNews, {"place": 2}), ("news 2 stand first clock 0 0", BadNews, {"place": 2}),
            ("news 2 strike 11", NoNews, {"number": 11}), ("news 1 strike 0", BadDay, {"day": 1}), ("news 2 told within sum 1 bore 0 9 1 0 length 0 1", BadNews, {"place": 1}), ("news 2 strikes 0", BadLine, {"word": 2}),
        ):
            self.raises(error, lambda: the_book(line), **kept)

    def test_13_news_in_force_and_who_stands_where(self):
        book = the_book("news 2 stand first gage 1 2", "news 2 strike 11", "news 3 strike 12", "news 3 edition fit nobody 2 2")
        for moment, device in ((11, "caliper"), (12, "gage"), (13, "caliper"), (14, "gage")):
            self.assertEqual(stands(book, "first", 1, moment), device)
            self.assertEqual(self.fit([], book, moment=moment).asked, ("bore", device))
        self.assertEqual(roster(book)[0], ("caliper", "gage", "gage", "caliper"))
        self.assertEqual([does(book, "fit", day) for day in range(4)], ["fitone", "fitone", "nobody", "fitone"])
        self.assertEqual(book.in_force(), (*range(12), 13, 14))

    def test_14_jolts_and_readings(self):
        book = the_book("news 2 jolt caliper 1", "news 3 strike 11")
        spots = (("caliper", 1, 0), ("caliper", 1, 1))
        self.assertEqual([web_of(book, moment).bound(*spots) for moment in (11, 12, 13)], [5, 420, 5])
        self.assertEqual(links_of(book, 13), links_of(book, 11))
        # What the reading of day 1 says is worth less when the caliper may have jumped.
        self.assertLess(web_of(book, 11).bound(GROUND, BORE), web_of(book, 12).bound(GROUND, BORE))
        run = retold(book, "fit", 1, ["bore"], ["first"], 12)
        self.assertEqual(run.reads, (("bore", "first", 6),))

    def test_15_chains_of_news(self):
        chain = self.web.chain(GROUND, BORE)
        self.assertEqual(sum(link[2] for link in chain), self.web.bound(GROUND, BORE))
        self.assertIn(("news", 8), [why for _, _, _, why in chain])
        self.assertIn(("news", 6), [why for _, _, _, why in chain])
        self.assertEqual(grounds(self.book, within(BORE, 400, self.web.bound(GROUND, BORE))), ((6, 8),))

    def test_16_pieces_of_what_is_known(self):
        rows = pieces(self.web)
        self.assertEqual([piece[0][0] for piece in rows], ["caliper", "gage", "clock", "beat"])
        worlds = [self.web.highest(), self.web.lowest(), self.web.highest(), self.web.reaching(BEAT, GROUND)]
        world = put_together(self.web, worlds)
        self.assertTrue(self.web.allows(world))
        self.assertEqual((world[BORE], world[PIN]), (self.web.highest()[BORE], self.web.lowest()[PIN]))
        for one in (higher(world, worlds[1]), lower(world, worlds[0])):
            self.assertTrue(self.web.allows(one))

    def test_17_the_slim_web_says_the_same(self):
        small = slim(self.web)
        self.assertLess(len(small), len(self.web))
        for link in self.web:
            self.assertTrue(follows(small, link))
        self.assertEqual(card_of(small, self.web.spots), card_of(self.web, self.web.spots))
        charter = self.book.charter
        slips = [Slip(charter, "play", 1, ["bore", "pin"], ["caliper", "gage"], web) for web in (self.web, small)]
        self.assertEqual(chart_of(slips[0]), chart_of(slips[1]))

    def test_18_ends_worlds_and_papers(self):
        form = Form.of(BORE) * (2, 3) - Form.of(PIN) + Form((), (5, 1))
        for web in (self.web, slim(self.web), card_of(self.web, [BORE, PIN]).as_web()):
            high, low = greatest(web, form), least(web, form)
            self.assertEqual((high.value, low.value), (greatest(self.web, form).value, least(self.web, form).value))
            self.assertEqual((form(high.reached), form(low.reached)), (high.value, low.value))
            self.assertEqual(shown(web, form, high.paper), high.value)
            self.assertEqual(shown(web, -form, low.paper), times((-1, 1), low.value))

    def test_19_the_shadow_of_two_sizes(self):
        run = self.play([5, 8])
        shadow = Shadow(run.web, Form.of(BORE), Form.of(PIN))
        low, high = [end.value for end in run.evidence(2)]
        products = [times(x, y) for x, y in shadow.corners]
        self.assertTrue(all(compare(low, product) <= 0 <= compare(high, product) for product in products))
        for point in shadow.corners:
            world = shadow.world_at(point)
            self.assertTrue(run.web.allows(world))
            self.assertEqual((world[BORE], world[PIN]), point)
        for p, q, c, proof in shadow.sides:
            self.assertEqual(shown(run.web, shadow.x * (p, 1) + shadow.y * (q, 1), proof), c)

    def test_20_products_and_quotients_in_runs(self):
        run = slip_of(self.book, "speed", 1, ["bore", "beat"], ["watch"])([2])
        self.assertEqual(run.kind, "done")
        quantity = run.quantity(0)
        low, high = ends(run.web, quantity)
        self.assertEqual([value_in(end.reached, quantity) for end in (low, high)], [low.value, high.value])
        self.assertEqual(run.rows[0][2:4], tuple(over(end.value, (100, 1)) for end in (low, high)))
        nought = ("quotient", quantity[1], (Form.of(BEAT) - Form((), (20, 1))).plain(), (1, 1), (1, -1))
        world = self.raises(NoQuotient, lambda: ends(run.web, nought)).world
        self.assertTrue(run.web.allows(world))
        self.assertEqual(world[BEAT], (20, 1))

    def test_21_verdicts(self):
        for marks in ([7], [5, 5], [6, 6], [6, 7]):
            run = self.fit(marks)
            row = run.rows[0]
            quantity = run.quantity(0)
            G, N = (1000, 1), (1200, 1)
            self.assertEqual(verdict(run.web, quantity, G, N).word, row[2])
            found = run.evidence(0)
            self.assertEqual(bool(found), row[2] != "open")
            if not found:
                self.assertTrue(is_good(value_in(found.good, quantity), G, N) and is_bad(value_in(found.bad, quantity), G, N))
                self.assertEqual(run.questions(), ((quantity, G, N),))

    def test_22_claims_of_runs_stand(self):
        for marks in ([7], [6, 6], [6, 7]):
            run = self.fit(marks)
            for claim in run.claims():
                self.assertIsNone(denying(run.web, claim))
                word, quantity, low, high = claim
                if word == "within":
                    # They cannot be told narrower.
                    world = denying(run.web, (word, quantity, low, over(times(high, (99, 1)), (100, 1))))
                    self.assertTrue(denies(world, (word, quantity, low, over(times(high, (99, 1)), (100, 1)))))

    def test_23_procedures_are_gone_through(self):
        slip = slip_of(self.book, "fit", 1, ["bore"], ["first"])
        self.assertEqual(list(slip.trace([7])), [("fitone", 0), ("fitone", 1), ("fitone", 3), ("fitone", 4)])
        self.assertEqual(list(slip.trace([5, 5])), [("fitone", 0), ("fitone", 1), ("fitone", 2), ("fitone", 3), ("fitone", 4)])
        slip = slip_of(self.book, "speed", 1, ["bore", "beat"], ["watch"])
        self.assertEqual(list(slip.trace([2])), [("run", 0), ("rest", 0), ("run", 1)])
        self.assertEqual([statement[0] for statement in steps_of(self.book.charter["fitone"][3])], ["read", "choose", "read", "judge", "tell"])

    def test_24_expressions_are_quantities(self):
        charter = self.book.charter
        play = charter["play"]
        gap = ("name", "gap")
        names = [("gap", ("minus", ("size", "hole"), ("size", "shaft")))]
        self.assertEqual(kind_of(charter, play, gap, names), ("sum", (1, 0)))
        quantity = quantity_of(charter, play, gap, 1, ["bore", "pin"], ["caliper", "gage"], names)
        run = self.play([5, 8])
        self.assertEqual([run.quantity(number) for number in (0, 1)], [quantity, quantity])
        self.assertEqual(quantity, ("sum", (Form.of(BORE) - Form.of(PIN)).plain(), (1, 0)))
        self.assertEqual(kind_of(charter, charter["run"], ("over", ("size", "hole"), ("size", "beat"))), ("quotient", (1, -1)))

    def test_25_faults_of_procedures(self):
        lines = list(HOUSE)
        at = lines.index("judge fits gap good 1/10 mm bad 0 mm")
        for line, kind, about in (
            ("judge fits gaps good 1/10 mm bad 0 mm", "unknown", "gaps"), ("judge fits gap good 1/10 inch bad 0 mm", "unit", "inch"), ("judge fits gap good 1/10 s bad 0 mm", "mixed", ((1, 0), (0, 1))),
            ("judge fits gap good gap bad 0 mm", "tangled", "judge"), ("judge fits gap good 1/10 mm bad 100 um", "nought", "judge"), ("let gap be size hole", "twice", "gap"), ("leave", "stray", "leave"),
        ):
            error = self.raises(BadStep, lambda: read_charter(lines[:at] + [line] + lines[at + 1:]))
            self.assertEqual((error.procedure, error.step, error.kind, error.about), ("play", 3, kind, about))

    def test_26_counts_of_readings(self):
        charter = self.book.charter
        self.assertEqual([readings(charter, name) for name in ("fitone", "play", "run", "rest")], [(2, 5), (2, 6), (1, 3), (1, 1)])
        rng = random.Random(26)
        for _ in range(20):
            self.assertLessEqual(self.fit([rng.randint(0, 9) for _ in range(4)]).used, 2)
        lines = list(HOUSE)
        at = lines.index("read beat by watch")
        self.raises(Ring, lambda: read_charter(lines[:at] + ["call rest takes beat uses watch"] + lines[at + 1:]), name="rest")
        self.raises(TooLong, lambda: read_charter(lines[:at] + ["repeat 4", "read beat by watch", "read beat by watch", "end"] + lines[at + 1:]), name="run")

    def test_27_lines_of_charters_books_and_cards(self):
        self.assertEqual(write_charter(read_charter(HOUSE)), HOUSE)
        self.assertEqual(write_book(self.book), HOUSE + NEWS)
        card = card_of(self.web, [BORE, PIN])
        self.assertEqual(read_card(write_card(card)), card)
        # What is read back goes on.
        again = read_book(write_book(self.book))
        self.assertEqual(self.fit([5, 5], again).rows, self.fit([5, 5]).rows)
        again.enter(3, ("strike", 0))
        self.assertNotEqual(again, self.book)

    def test_28_lines_of_statements(self):
        for procedure in self.book.charter.procedures:
            lines = write_procedure(procedure)
            self.assertEqual(read_procedure(lines), procedure)
            self.assertTrue("\n".join(lines) in "\n".join(HOUSE))
        made = read_procedure(["procedure odd", "takes one length", "repeat 2", "choose ( size one ) good 1 mm bad ( 2 mm )", "passed", "failed", "leave", "open", "end", "end", "stop", "end"])
        charter = self.book.charter.changed(procedures=(made,), jobs=())
        self.assertEqual(read_charter(write_charter(charter)), charter)
        self.assertEqual(Slip(charter, "odd", 1, ["pin"], [], self.web)([]).kind, "done")

    def test_29_lines_of_claims(self):
        run = self.play([5, 8])
        enter_run(self.book, 2, run)
        lines = write_book(self.book)
        self.assertIn("news 2 read bore first 1 5", lines)
        self.assertEqual(read_book(lines), self.book)
        self.assertEqual([read_book(lines)[number][1][1] for number in (13, 14, 15)], list(run.claims()))
        for number, line in enumerate(lines):
            if line.split(" ")[0] in ("days", "base", "unit", "news"):
                error = self.raises(BadLine, lambda: read_book(lines[:number] + [line + " zzz"] + lines[number + 1:]))
                self.assertEqual((error.line, error.word), (number, len(line.split(" "))))

    def test_30_the_example_of_the_document(self):
        for word in WORDS:
            self.assertFalse(is_name(word))
        charter = read_charter(LINES)
        self.assertEqual(write_charter(charter), LINES)
        book = Book.of(charter, [(0, ("stand", "gauge", "caliper", 0, 4)), (0, ("edition", "fit", "fitone", 0, 4)), (0, ("cert", "caliper", 0, 1, 0, 0, "ground", 0, -5, 5))])
        chart = chart_of(slip_of(book, "fit", 0, ["bore"], ["gauge"]))
        self.assertEqual([span[:2] for span in chart[3]][0], (0, 1))
        self.assertEqual(behind(chart, [4]), ("end", "done", (("small", "passed"),)))

    def test_31_slips_with_a_card_in_the_place_of_the_web(self):
        slip = slip_of(self.book, "clear", 1, ["bore", "pin"], ["first", "second"])
        small = pressed(slip)
        self.assertEqual(small.web.spots, slip.own_spots())
        self.assertEqual(set(slip.own_spots()), {GROUND, BORE, PIN, ("caliper", 0, 1), ("caliper", 1, 1), ("gage", 0, 1)})
        for marks in itertools.product(range(3, 7), range(6, 10)):
            self.assertEqual((small(marks).kind, small(marks).rows), (slip(marks).kind, slip(marks).rows))

    def test_32_each_way_a_run_ends(self):
        book = the_book("news 2 stand second nobody 0 3", "news 3 cert beat 0 0 1 1 ground 0 20 24")
        told = [self.fit([7]).kind, self.fit([]).kind, self.fit([0]).kind, self.play([5], book).kind]
        main = ("main", (("one", "length"), ("two", "length")), (), (("tell", "x", ("over", ("size", "one"), ("minus", ("size", "one"), ("size", "two"))), "1"),))
        charter = self.book.charter.changed(procedures=(main,), jobs=())
        run = Slip(charter, "main", 1, ["bore", "pin"], [], Web(charter.all_spots(), charter.own_links()))([])
        self.assertEqual(told + [run.kind], ["done", "asks", "clash", "nobody", "nought"])
        self.assertEqual(run.world[BORE], run.world[PIN])
        self.assertLess(sum(link[2] for link in self.fit([0]).ring), 0)

    def test_33_entered_claims_and_open_questions(self):
        run = self.fit([5])
        questions = run.questions()
        self.assertEqual(run.kind, "asks")
        self.assertEqual(questions, ())
        run = self.fit([5, 5])
        ((quantity, G, N),) = run.questions()
        before = len(self.book)
        numbers = enter_run(self.book, 2, run)
        self.assertEqual(numbers, tuple(range(before, before + 3)))
        self.assertEqual([self.book[number][1] for number in numbers], [("read", "bore", "first", 1, 5)] * 2 + [("told", claim) for claim in run.claims()])
        self.assertIn("told", [news[0] for _, news in self.book])
        self.assertFalse(settles(web_of(self.book), [(quantity[1], G, N)], []))

    def test_34_runs_that_are_retold(self):
        run = self.fit([5, 6], moment=8)
        book = self.book.cut(8)
        enter_run(book, 1, run)
        again = retold(book, "fit", 1, ["bore"], ["first"])
        self.assertEqual((again.kind, again.reads, again.rows), (run.kind, run.reads, run.rows))
        # Another edition, and a reading that is withdrawn.
        book.enter(2, ("strike", 9))
        self.assertEqual(retold(book, "fit", 1, ["bore"], ["first"]).kind, "asks")
        book.enter(2, ("edition", "fit", "rest", 0, 3))
        self.assertEqual(retold(book, "fit", 1, ["beat"], ["watch"]).asked, ("beat", "clock"))

    def test_35_cards_stand_for_webs(self):
        card = card_of(self.web, [BORE, PIN])
        claims = [within(BORE, low, low + 300) for low in range(600, 1200, 100)] + [("within", ("product", Form.of(BORE).plain(), Form.of(PIN).plain(), (1, 1), (2, 0)), (0, 1), (most, 1)) for most in (900000, 1100000)]
        for claim in claims:
            self.assertEqual(denying(card.as_web(), claim) is None, denying(self.web, claim) is None)
        # A reading, put in the card, or in the web behind it.
        links = [(BORE, PIN, -50, ("x",)), (GROUND, PIN, 880, ("x",))]
        entered = card
        for a, b, bound, _ in links:
            entered = entered.entered(a, b, bound)
        self.assertEqual(entered, card_of(self.web.more(links), [BORE, PIN]))
        halves = [card_of(web_without(self.book, row), [BORE, PIN]) for row in ((8,), (9,))]
        self.assertEqual(halves[0] & halves[1], card)

    def test_36_the_procedure_that_parts_two_moments(self):
        cards = [card_of(web_of(self.book, moment), [spot for spot in self.web.spots if spot[2] == 1]) for moment in (8, 10)]
        a, b, world = parted(*cards)
        charter, features, devices = parter(self.book.charter, *cards)
        rows = [Slip(charter, "parter", 1, features, devices, web_of(self.book, moment))([]).rows[0] for moment in (8, 10)]
        self.assertNotEqual(rows[0], rows[1])
        self.assertEqual(world.gap(a, b), rows[0][3])
        self.assertEqual(read_charter(write_charter(charter)), charter)

    def league(self):
        """The house, and one to which it sends its caliper and the piece."""
        lines = ["days 4", "base length", "base time", HOUSE[7], HOUSE[10], "role own length", "job fit", *HOUSE[HOUSE.index("procedure fitone"):HOUSE.index("procedure play")]]
        lines = ["unit mm length 1000" if line == HOUSE[7] else line for line in lines[:3]] + [HOUSE[3]] + lines[3:]
        other = read_book(lines)
        return League([("shop", self.book), ("yard", other)], [("shop", "yard")])

    def test_37_a_league_of_two_houses(self):
        league = self.league()
        self.assertEqual({spot[0] for spot in league.shared("shop", "yard")}, {"ground", "caliper", "bore"})
        self.assertEqual(league.knows("shop"), self.web)
        league.deliver(league.send("shop", "yard"))
        self.assertEqual(league.knows("yard").bound(GROUND, BORE), self.web.bound(GROUND, BORE))
        # A run in the yard, by what the shop has told.
        charter = league.book_of("yard").charter
        run = Slip(charter, "fitone", 1, ["bore"], ["caliper"], league.knows("yard"))([7])
        self.assertEqual(run.rows, self.fit([7]).rows)
        self.assertEqual(len(run.rows), 2)

    def test_38_letters_that_come_late(self):
        league = self.league()
        league.send("shop", "yard")
        league.enter("shop", 3, ("cert", "bore", 0, 0, 0, 3, "ground", 0, 900, 1000))
        league.send("shop", "yard")
        bounds = []
        for number in (0, 1, 0):
            league.deliver(number)
            bounds.append(league.knows("yard").bound(GROUND, BORE))
            moments = league.horizon("yard")
            self.assertEqual(card_of(joined(league, moments), [BORE]), card_of(league.knows("yard"), [BORE]))
        self.assertEqual(bounds, [self.web.bound(GROUND, BORE), 1000, 1000])
        self.assertEqual(league.letter(0)[2], card_of(self.web, league.shared("shop", "yard")))
        self.assertEqual(read_card(write_card(league.letter(0)[2])), league.letter(0)[2])

    def test_39_settling_and_what_is_denied_then(self):
        league = self.league()
        league.enter("yard", 0, ("told", within(BORE, 500, 1455)))
        self.assertEqual([number for number, _ in denied(league, "yard")], [0])
        self.assertEqual(stale(league), (("shop", "yard"), ("yard", "shop")))
        self.assertEqual(settle(league), (("shop", "yard"), ("yard", "shop")))
        self.assertEqual(denied(league, "yard"), ())
        league.enter("shop", 3, ("strike", 8))
        self.assertEqual(denied(league, "yard"), ())
        with Held(league) as held:
            settle(held)
            self.assertEqual([number for number, _ in denied(held, "yard")], [0])
        self.assertEqual(stale(league), (("shop", "yard"),))
        made = attempted(league, [("send", "shop", "yard"), ("deliver", 2)])
        self.assertEqual((stale(made), len(league)), ((), 2))

    def test_40_news_withdrawn_twice(self):
        claim = within(BORE, 500, self.web.bound(GROUND, BORE))
        number = self.book.enter(2, ("told", claim))
        for struck in (8, 12, 13):
            self.book.enter(3, ("strike", struck))
        self.assertEqual(history(self.book, number), ("stands", "denied", "stands", "denied"))
        self.assertEqual(blame(self.book, number), 12)
        self.assertEqual(state(self.book, number), "denied")
        self.assertEqual([one for one, _ in Fallen(self.book)], [number])
        again = read_book(write_book(self.book))
        self.assertEqual((history(again, number), blame(again, number)), (history(self.book, number), 12))

    def test_41_what_bears_the_claims_of_a_run(self):
        run = self.play([5, 8], moment=8)
        book = self.book.cut(8)
        numbers = enter_run(book, 2, run)
        self.assertEqual(bearing(book), (6, 7, 8, 9))
        for number in numbers[2:]:
            claim = book[number][1][1]
            least_one = ground(book, claim)
            self.assertTrue(bears(book, least_one, claim))
            self.assertEqual(leaning(book, claim), tuple(one for one in bearing(book) if all(one in row for row in grounds(book, claim))))
            fell = felling(book, claim)
            for one in fell:
                book.enter(3, ("strike", one))
            self.assertEqual(state(book, number), "denied")
            book = book.cut(8 + len(numbers))
        self.assertEqual([grounds(book, book[number][1][1])[0] for number in numbers[2:]][0], (6, 7, 8, 9))

    def test_42_doubts_after_news_that_clashes(self):
        book = the_book("news 3 cert bore 0 0 1 1 ground 0 1700 1800")
        self.raises(Clash, lambda: Fallen(book))
        self.raises(Clash, lambda: slip_of(book, "fit", 1, ["bore"], ["first"])([5]))
        self.assertEqual(doubts(book), (8,))
        for number in doubts(book):
            book.enter(3, ("strike", number))
        self.assertEqual(doubts(book), ())
        self.assertIsInstance(Fallen(book), Fallen)

    def test_43_the_chart_tells_what_runs_come_to(self):
        slip = slip_of(self.book, "fit", 1, ["bore"], ["first"])
        chart = chart_of(slip)
        self.assertEqual(chart_of(pressed(slip)), chart)
        for marks in itertools.product(range(10), repeat=2):
            run = slip(marks)
            found = behind(chart, marks[:run.used])
            self.assertEqual(found, ("clash",) if run.kind == "clash" else ("end", run.kind, tuple(row[1:] for row in run.rows if row[0] == "judged")))
        # Another certificate parts the charts.
        other = chart_of(slip_of(the_book("news 3 strike 6"), "fit", 1, ["bore"], ["first"]))
        marks = parting_marks(chart, other)
        self.assertNotEqual(behind(chart, marks), behind(other, marks))

    def test_44_readings_of_no_use(self):
        slip = slip_of(self.book, "speed", 1, ["bore", "beat"], ["watch"])
        self.assertEqual(pruned(chart_of(slip)), ("end", "done", ()))
        chart = chart_of(slip_of(self.book, "fit", 1, ["bore"], ["first"]))
        less = pruned(chart)
        for world in (self.web.highest(), self.web.lowest()):
            for mark in marks_in(world, self.book.charter["caliper"], "bore", 1):
                for second in marks_in(world, self.book.charter["caliper"], "bore", 1):
                    marks = (mark, second)[:self.fit([mark, second]).used]
                    self.assertEqual(behind(less, kept_marks(chart, marks)), behind(chart, marks))

    def test_45_the_least_danger(self):
        slip = slip_of(self.book, "fit", 1, ["bore"], ["first"])
        marks = danger(slip)
        run = slip(marks)
        self.assertEqual((run.kind, run.rows[0][2]), ("done", "open"))
        for row in itertools.product(range(10), repeat=2):
            other = slip(row)
            if row[:other.used] < marks and other.used <= len(marks):
                self.assertFalse(other.kind == "done" and other.rows[0][2] == "open")
        narrow = the_book("news 3 cert bore 0 0 1 1 ground 0 900 1000")
        self.assertIsNone(danger(slip_of(narrow, "fit", 1, ["bore"], ["first"])))

    def test_46_probes_for_the_questions_of_a_run(self):
        run = self.fit([5, 5])
        ((quantity, G, N),) = run.questions()
        asked = (quantity[1], G, N)
        probes = [(GROUND, PIN, 5), (("caliper", 1, 1), BORE, 150), (("caliper", 1, 1), BORE, 40), (GROUND, ("caliper", 1, 1), 10)]
        found = fewest(run.web, [asked], probes)
        self.assertIsNotNone(found)
        self.assertTrue(settles(run.web, [asked], [probes[number] for number in found]))
        chosen = [probes[number] for number in found]
        self.assertTrue(judge_paper(run.web, asked, chosen, paper(run.web, asked, chosen)))
        good, bad = pair(run.web, asked, [probes[0]])
        self.assertTrue(run.web.allows(good) and run.web.allows(bad))
        self.assertTrue(is_good(value_in(good, quantity), G, N) and is_bad(value_in(bad, quantity), G, N))
        # On the card it is the same.
        small = card_of(run.web, [BORE, ("caliper", 1, 1), PIN]).as_web()
        self.assertEqual(fewest(small, [asked], probes), found)

    def test_47_a_plan_for_the_question_of_a_run(self):
        charter = self.book.charter
        run = self.fit([5, 5])
        quantity = run.quantity(0)
        self.assertFalse(run.evidence(0))
        for G, N, most in (((1000, 1), (1200, 1), 1), ((900, 1), (1300, 1), 1), ((950, 1), (1250, 1), 2)):
            asked = (quantity[1], G, N)
            found = plan(charter, run.web, 1, asked, [("bore", "gage")], most=most)
            reply = answer(charter, run.web, 1, asked, [("bore", "gage")], most=most)
            self.assertEqual(found is None, reply is not None)
            web = run.web
            while found is not None and found[0] == "read":
                world = web.highest()
                mark = marks_in(world, charter["gage"], "bore", 1)[0]
                web = web.more(reading_links(charter["gage"], "bore", 1, mark, ("x",)))
                found = [told for first, last, told in found[2] if first <= mark <= last][0]
            if found is not None:
                self.assertEqual(found, (verdict(web, quantity, G, N).word,))

    def test_48_a_book_in_finer_grains(self):
        enter_run(self.book, 2, self.play([5, 8]))
        self.book.enter(3, ("strike", 8))
        made = finer(finer(self.book, "length", 10), "time", 3)
        self.assertEqual(read_book(write_book(made)), made)
        self.assertEqual([number for number, _ in Fallen(made)], [number for number, _ in Fallen(self.book)])
        for job, features, roles in (("fit", ["bore"], ["first"]), ("speed", ["bore", "beat"], ["watch"])):
            slips = [slip_of(book, job, 1, features, roles) for book in (self.book, made)]
            self.assertEqual(chart_of(slips[0]), chart_of(slips[1]))
        runs = [retold(book, "clear", 1, ["bore", "pin"], ["first", "second"]) for book in (self.book, made)]
        self.assertEqual(runs[0].kind, runs[1].kind)
        # In units that are no grains; um is a grain here, and a tenth of one there, so it is the same as well.
        self.assertEqual(runs[0].rows, runs[1].rows)
        self.raises(TooLarge, lambda: finer(self.book, "length", 10 ** 9), number=200 * 10 ** 9)
        self.raises(NoSpot, lambda: grounds(made, within(("zzz", 0, 0), 0, 1)))
        self.assertIsInstance(World([(GROUND, (0, 1))]), World)
        self.assertIsInstance(made.charter, Charter)


if __name__ == "__main__":
    unittest.main()
