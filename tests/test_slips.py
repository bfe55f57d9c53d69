"""[31] slips, their own spots, and the slip of a book; [33] entering a run; [34] runs that are retold."""

import unittest

from ellwarden.books import Book
from ellwarden.bookwebs import web_of
from ellwarden.errors import BadDay, BadNews, BadSlip, Clash, NoMoment, Nobody, TooMany, Unknown
from ellwarden.runs import Run
from ellwarden.slips import Slip, enter_run, retold, slip_of
from ellwarden.webs import Web
from ellwarden.worlds import GROUND
from samples import STRANGE, grains, house, procedure, ratios, sized, spot_form, swapped
from test_ends import EndCase
from test_webs import tied

ONE, TWO = sized("one"), sized("two")
READ = ("read", "one", "tool")
# Reads and tells of a piece, with a beat and a timer that are not used.
MAIN = procedure(READ, ("tell", "x", ONE, "length"))
# Tells of a size alone, and judges another one.
PLAIN = ("plain", (("one", "length"), ("two", "length")), (), (("tell", "x", ONE, "mm"), ("judge", "y", TWO, grains(50), grains(60))))
TWICE = ("twice", (("one", "length"),), (("tool", "length"), ("arm", "length")), (READ, ("read", "one", "arm"), READ, ("tell", "x", ONE, "length"), ("judge", "y", ONE, grains(55), grains(60))))
KEEPER = house(MAIN, PLAIN, TWICE, jobs=("fit", "weigh", "rest"))
WEB = Web(KEEPER.all_spots(), KEEPER.own_links())
FEATURES, DEVICES, ROLES = ("bore", "slot", "beat"), ("dial", "clock"), ("gauge", "timer")


def slip(name="main", day=1, features=FEATURES, devices=DEVICES, web=WEB, roles=None):
    return Slip(KEEPER, name, day, features, devices, web, roles)


class Making(EndCase):
    def test_attributes(self):
        made = slip(roles=list(ROLES))
        self.assertIs(made.charter, KEEPER)
        self.assertIs(made.web, WEB)
        self.assertEqual((made.procedure, made.day, made.features, made.devices, made.roles), ("main", 1, FEATURES, DEVICES, ROLES))
        made = Slip(KEEPER, "plain", 0, ["bore", "slot"], [], WEB)
        self.assertEqual((made.features, made.devices, made.roles), (("bore", "slot"), (), ()))

    def test_roles_that_are_not_told(self):
        self.assertEqual(slip().roles, ("", ""))
        self.assertEqual(slip(roles=None).roles, ("", ""))
        for roles in (("", ""), ("gauge", ""), ("", "timer")):
            self.assertEqual(slip(roles=roles).roles, roles)

    def test_rows_of_the_caller_are_copied(self):
        features, devices, roles = list(FEATURES), list(DEVICES), list(ROLES)
        made = slip(features=features, devices=devices, roles=roles)
        for row in (features, devices, roles):
            row.clear()
        self.assertEqual((made.features, made.devices, made.roles), (FEATURES, DEVICES, ROLES))

    def test_nobody_and_one_name_several_times(self):
        self.assertEqual(slip(devices=("nobody", "nobody")).devices, ("nobody", "nobody"))
        self.assertEqual(slip(features=("bore", "bore", "beat")).features, ("bore", "bore", "beat"))
        self.assertEqual(slip("twice", features=("slot",), devices=("ring", "ring"), roles=("gauge", "gauge")).devices, ("ring", "ring"))

    def test_days_at_the_edges(self):
        for day in (0, 2):
            self.assertEqual(slip(day=day).day, day)


class BadSlips(EndCase):
    def bad(self, part, **parts):
        self.raises(BadSlip, lambda: slip(**parts), part=part)

    def test_unknown_then_bad_day(self):
        for name in ("mains", "bore", "dial", "gauge", "fit", "length", "", 0) + STRANGE:
            self.raises(Unknown, lambda: slip(name, "no", None, None, None, ()), name=name)
        for day in (-1, 3, "1") + STRANGE:
            self.raises(BadDay, lambda: slip("main", day, None, None, None, ()), day=day)

    def test_rows(self):
        for row in (None, 5, "bore", {}, True):
            self.bad("features", features=row)
            self.bad("devices", devices=row)
            if row is not None:
                self.bad("roles", roles=row)

    def test_numbers(self):
        for row in ((), FEATURES[:2], FEATURES + ("bore",)):
            self.bad("features", features=row)
            self.bad("features", features=list(row))
        for row in ((), DEVICES[:1], DEVICES + ("dial",)):
            self.bad("devices", devices=row)
        for row in ((), ROLES[:1], ROLES + ("gauge",)):
            self.bad("roles", roles=row)

    def test_each_place_of_features(self):
        for place in range(3):
            for thing in STRANGE + ("dial", "gauge", "one", "length", "nobody", "ground", "bores", 0, "beat" if place < 2 else "bore"):
                self.bad("features", features=swapped(FEATURES, place, thing))

    def test_each_place_of_devices(self):
        for place in range(2):
            for thing in STRANGE + ("bore", "gauge", "tool", "length", "ground", "dials", 0, "clock" if place == 0 else "ring"):
                self.bad("devices", devices=swapped(DEVICES, place, thing))

    def test_each_place_of_roles(self):
        for place in range(2):
            for thing in STRANGE + ("bore", "dial", "tool", "length", "nobody", "ground", "gauges", 0, "timer" if place == 0 else "gauge"):
                if thing != "":
                    self.bad("roles", roles=swapped(ROLES, place, thing))

    def test_the_first_part(self):
        small = Web([GROUND], [])
        self.bad("features", features=None, devices=None, roles=5, web=small)
        self.bad("devices", devices=None, roles=5, web=small)
        self.bad("roles", roles=5, web=small)
        self.bad("web", web=small)

    def test_spots_that_the_web_lacks(self):
        own = slip().own_spots()
        whole = Web(own, [link for spot in own[1:] for link in tied(spot, 0, 9)])
        self.assertEqual(slip(web=whole).web, whole)
        for lacking in own[1:]:
            spots = [spot for spot in own if spot != lacking]
            self.bad("web", web=Web(spots, [link for spot in spots[1:] for link in tied(spot, 0, 9)]))
        # Of nobody no spot is asked.
        spots = [spot for spot in own if spot[0] != "clock"]
        less = Web(spots, [link for spot in spots[1:] for link in tied(spot, 0, 9)])
        self.assertEqual(slip(devices=("dial", "nobody"), web=less).web, less)

    def test_a_web_in_a_clash_makes_a_slip(self):
        broken = WEB.more([(GROUND, ("bore", 0, 1), -1, ("news", 0))])
        made = slip(web=broken)
        self.is_ring(broken, self.raises(Clash, lambda: made([])).ring)
        # Ahead of what the marks raise, and ahead of the first pair.
        self.is_ring(broken, self.raises(Clash, lambda: made([999])).ring)
        pairs = made.trace([])
        self.is_ring(broken, self.raises(Clash, lambda: list(pairs)).ring)


class OwnSpots(unittest.TestCase):
    def test_in_order(self):
        self.assertEqual(slip().own_spots(), (
            GROUND, ("bore", 0, 1), ("slot", 0, 1), ("beat", 0, 1), ("dial", 0, 1), ("dial", 1, 1), ("dial", 2, 1), ("clock", 0, 1), ("clock", 1, 1),
        ))
        self.assertEqual(slip(features=("slot", "bore", "beat"), devices=("ring", "clock"), day=2).own_spots(), (
            GROUND, ("slot", 0, 2), ("bore", 0, 2), ("beat", 0, 2), ("ring", 0, 2), ("clock", 0, 2), ("clock", 1, 2),
        ))

    def test_each_once(self):
        self.assertEqual(slip(features=("bore", "bore", "beat"), devices=("nobody", "nobody")).own_spots(), (GROUND, ("bore", 0, 1), ("beat", 0, 1)))
        self.assertEqual(slip("twice", features=("slot",), devices=("dial", "dial")).own_spots(), (GROUND, ("slot", 0, 1), ("dial", 0, 1), ("dial", 1, 1), ("dial", 2, 1)))
        self.assertEqual(slip("twice", features=("slot",), devices=("ring", "dial")).own_spots()[2:4], (("ring", 0, 1), ("dial", 0, 1)))
        self.assertIs(type(slip().own_spots()), tuple)


CERT = ("cert", "dial", 0, 2, 0, 2, "ground", 0, 0, 0)
STAND = ("stand", "gauge", "dial", 0, 2)


class OfBooks(EndCase):
    ROWS = (
        (0, ("edition", "fit", "main", 0, 1)), (0, STAND), (0, ("stand", "timer", "clock", 1, 1)), (1, CERT), (1, ("edition", "fit", "plain", 0, 0)), (1, ("stand", "gauge", "ring", 1, 1)),
        (2, ("strike", 5)), (2, ("edition", "weigh", "twice", 0, 2)),
    )
    BOOK = Book.of(KEEPER, ROWS)

    def test_what_is_known_at_the_moment(self):
        made = slip_of(self.BOOK, "fit", 1, list(FEATURES), list(ROLES))
        self.assertIsInstance(made, Slip)
        self.assertIs(made.charter, KEEPER)
        self.assertEqual((made.procedure, made.day, made.features, made.devices, made.roles), ("main", 1, FEATURES, ("dial", "clock"), ROLES))
        self.assertEqual(made.web, web_of(self.BOOK))
        for moment, devices in ((1, ("nobody", "nobody")), (2, ("dial", "nobody")), (3, ("dial", "clock")), (6, ("ring", "clock")), (7, ("dial", "clock"))):
            made = slip_of(self.BOOK, "fit", 1, FEATURES, ROLES, moment)
            self.assertEqual(made.devices, devices)
            self.assertEqual(made.web, web_of(self.BOOK, moment))
        self.assertEqual(slip_of(self.BOOK, "fit", 0, FEATURES, ROLES, 4).devices, ("dial", "nobody"))
        self.assertEqual(slip_of(self.BOOK, "fit", 0, ("bore", "slot"), ()).procedure, "plain")
        self.assertEqual(slip_of(self.BOOK, "weigh", 2, ("slot",), ("gauge", "gauge")).devices, ("dial", "dial"))

    def test_refusals_in_order(self):
        for moment in (-1, 9, "1", True):
            for call in (slip_of, retold):
                self.raises(NoMoment, lambda: call(self.BOOK, "no", "no", None, None, moment), moment=moment)
        for call in (slip_of, retold):
            for job in ("main", "gauge", "bore", "fits", 0) + STRANGE:
                self.raises(Unknown, lambda: call(self.BOOK, job, "no", None, None), name=job)
            for day in (-1, 3, "1") + STRANGE:
                self.raises(BadDay, lambda: call(self.BOOK, "rest", day, None, None), day=day)
            self.raises(Nobody, lambda: call(self.BOOK, "rest", 1, None, None), job="rest")
            self.raises(Nobody, lambda: call(self.BOOK, "fit", 2, None, None), job="fit")
            self.raises(Nobody, lambda: call(self.BOOK, "fit", 1, None, None, 0), job="fit")
            for features in (None, (), FEATURES[:2], swapped(FEATURES, 0, "beat"), swapped(FEATURES, 2, None), "bore"):
                self.raises(BadSlip, lambda: call(self.BOOK, "fit", 1, features, None), part="features")
            for roles in (None, (), ROLES[:1], ROLES + ("gauge",), ("gauge", ""), ("", "timer"), ("gauge", None), ("timer", "gauge"), ("dial", "clock"), "gauge", ("gauge", "nobody")):
                self.raises(BadSlip, lambda: call(self.BOOK, "fit", 1, FEATURES, roles), part="roles")

    def test_struck_and_renewed_editions(self):
        book = Book.of(KEEPER, [(0, ("edition", "fit", "main", 0, 2)), (0, ("edition", "fit", "nobody", 1, 2)), (0, ("strike", 1)), (0, ("strike", 0))])
        self.assertEqual(slip_of(book, "fit", 1, FEATURES, ROLES, 1).procedure, "main")
        self.raises(Nobody, lambda: slip_of(book, "fit", 1, FEATURES, ROLES, 2), job="fit")
        self.assertEqual(slip_of(book, "fit", 1, FEATURES, ROLES, 3).procedure, "main")
        self.raises(Nobody, lambda: slip_of(book, "fit", 1, FEATURES, ROLES), job="fit")


X = ("sum", spot_form(("bore", 0, 1)), (1, 0))


class Entering(EndCase):
    def setUp(self):
        self.book = Book.of(KEEPER, [(0, ("edition", "fit", "twice", 0, 2)), (0, STAND), (1, CERT)])
        self.slip = slip_of(self.book, "fit", 1, ["bore"], ["gauge", "gauge"])

    def test_readings_then_claims(self):
        run = self.slip([5, 6, 5])
        self.assertEqual(enter_run(self.book, 1, run), (3, 4, 5, 6))
        self.assertEqual(list(self.book)[3:], [
            (1, ("read", "bore", "gauge", 1, 5)), (1, ("read", "bore", "gauge", 1, 6)), (1, ("read", "bore", "gauge", 1, 5)), (1, ("told", ("within", X, *ratios(50, 60)))),
        ])
        # An open verdict leaves no claim.
        self.assertEqual(run.rows, (("told", "x", (50, 1), (60, 1), "length"), ("judged", "y", "open")))

    def test_verdicts_that_are_not_open(self):
        run = self.slip([5, 4, 5])
        self.assertEqual(run.rows, (("told", "x", (40, 1), (50, 1), "length"), ("judged", "y", "passed")))
        self.assertEqual(enter_run(self.book, 2, run), (3, 4, 5, 6, 7))
        self.assertEqual(list(self.book)[6:], [(2, ("told", ("within", X, *ratios(40, 50)))), (2, ("told", ("passed", X, *ratios(55, 60))))])

    def test_a_run_that_ended_in_between(self):
        run = self.slip([5])
        self.assertEqual(run.kind, "asks")
        self.assertEqual(enter_run(self.book, 1, run), (3,))
        run = self.slip([5, 9])
        self.assertEqual(run.kind, "clash")
        # The reading that ended it in a clash is entered, too.
        self.assertEqual(enter_run(self.book, 1, run), (4, 5))
        self.assertEqual(list(self.book)[4:], [(1, ("read", "bore", "gauge", 1, 5)), (1, ("read", "bore", "gauge", 1, 9))])

    def test_any_known_day_that_the_book_lets(self):
        run = self.slip([5])
        for day in (0, 3, -1, "1") + STRANGE:
            self.raises(BadDay, lambda: enter_run(self.book, day, run), day=day)
        self.assertEqual(len(self.book), 3)
        self.assertEqual(enter_run(self.book, 2, run), (3,))
        self.assertEqual(self.book[3], (2, ("read", "bore", "gauge", 1, 5)))

    def test_nothing_to_enter(self):
        run = self.slip([])
        self.assertEqual(enter_run(self.book, 1, run), ())
        self.raises(BadDay, lambda: enter_run(self.book, 0, run), day=0)
        self.assertEqual(len(self.book), 3)

    def test_too_many(self):
        run = self.slip([5, 4, 5])
        for _ in range(54):
            self.book.enter(1, ("jolt", "slot", 1))
        kept = self.book.copy()
        self.raises(TooMany, lambda: enter_run(self.book, 1, run), kind="news")
        self.raises(BadDay, lambda: enter_run(self.book, 0, run), day=0)
        self.assertEqual(self.book, kept)
        # Ahead of what the first news that is refused raises.
        untold = slip("twice", features=("bore",), devices=("dial", "dial"))([5, 5, 5])
        self.raises(TooMany, lambda: enter_run(self.book, 1, untold), kind="news")
        self.assertEqual(self.book, kept)
        book = self.book.cut(55)
        self.assertEqual(enter_run(book, 1, run), (55, 56, 57, 58, 59))
        self.assertEqual(len(book), 60)
        self.assertEqual(enter_run(book, 1, self.slip([])), ())

    def test_all_or_nothing(self):
        kept = self.book.copy()
        # The second role is not told, so the second reading is refused.
        run = slip("twice", features=("bore",), devices=("dial", "dial"), roles=("gauge", ""))([5, 5, 5])
        self.assertEqual([role for _, role, _ in run.reads], ["gauge", "", "gauge"])
        self.raises(BadNews, lambda: enter_run(self.book, 1, run), place=2)
        self.assertEqual(self.book, kept)

    def test_claims_that_are_refused(self):
        # A sum of a size times a time has not the dimension of its base.
        heavy = procedure(READ, ("tell", "a", ONE, "length"), ("tell", "b", ("times", grains(2, "time"), ONE), "length*time"), name="heavy")
        charter = house(heavy)
        book = Book(charter)
        run = Slip(charter, "heavy", 1, FEATURES, DEVICES, web_of(book), ROLES)([5])
        self.assertEqual(run.kind, "done")
        self.raises(BadNews, lambda: enter_run(book, 1, run), place=1)
        self.assertEqual(len(book), 0)
        self.assertEqual(book.enter(0, ("jolt", "bore", 1)), 0)

    def test_in_a_book_of_another_house(self):
        other = Book(house(TWICE, days=1, jobs=("fit",)))
        self.raises(BadNews, lambda: enter_run(other, 0, self.slip([5])), place=3)
        self.assertEqual(len(other), 0)


class Retold(EndCase):
    def book(self, *rows):
        first = [("edition", "fit", "twice", 0, 2), STAND, CERT]
        return Book.of(KEEPER, [(0, news) for news in first + list(rows)])

    def run_of(self, book, moment=None, day=1, roles=("gauge", "gauge")):
        run = retold(book, "fit", day, ["bore"], roles, moment)
        self.assertIsInstance(run, Run)
        return run

    def reading(self, mark, day=1, feature="bore", role="gauge"):
        return ("read", feature, role, day, mark)

    def marks(self, run):
        return [mark for _, _, mark in run.reads]

    def test_the_records_in_order(self):
        book = self.book(self.reading(5), self.reading(6), self.reading(5), self.reading(4))
        run = self.run_of(book)
        self.assertEqual((run.kind, run.used, self.marks(run)), ("done", 3, [5, 6, 5]))
        self.assertEqual(run.reads, (("bore", "gauge", 5), ("bore", "gauge", 6), ("bore", "gauge", 5)))
        # The book's web has the fourth one, too: x is from 50 to 50.
        self.assertEqual(run.rows, (("told", "x", (50, 1), (50, 1), "length"), ("judged", "y", "passed")))
        # The links are put behind once more.
        self.assertEqual(run.slip.web, web_of(book))
        self.assertEqual(run.web.links[:len(run.slip.web)], run.slip.web.links)
        whys = [why for _, _, _, why in run.web.links[len(run.slip.web):]]
        self.assertEqual(whys, [("mark", 0)] * 2 + [("mark", 1)] * 2 + [("mark", 2)] * 2)
        self.assertEqual(run.slip.roles, ("gauge", "gauge"))

    def test_too_few_records(self):
        for many in range(3):
            run = self.run_of(self.book(*[self.reading(5)] * many))
            self.assertEqual((run.kind, run.used, run.asked), ("asks", many, ("bore", "dial")))

    def test_records_of_other_days_features_and_roles(self):
        others = [self.reading(7, day=0), self.reading(7, day=2), self.reading(7, feature="slot"), ("read", "beat", "timer", 1, 7)]
        run = self.run_of(self.book(*others, self.reading(5), *others, self.reading(6)))
        self.assertEqual((run.kind, self.marks(run)), ("asks", [5, 6]))
        self.assertEqual(self.marks(self.run_of(self.book(*others), day=0)), [7])

    def test_each_role_has_its_own_records(self):
        keeper = house(MAIN, PLAIN, TWICE, jobs=("fit",), roles=(("gauge", "length"), ("spare", "length")))
        rows = [("edition", "fit", "twice", 0, 2), STAND, ("stand", "spare", "dial", 0, 2), CERT]
        rows += [("read", "bore", "gauge", 1, 5), ("read", "bore", "gauge", 1, 4), ("read", "bore", "spare", 1, 6)]
        run = retold(Book.of(keeper, [(0, news) for news in rows]), "fit", 1, ["bore"], ["gauge", "spare"])
        self.assertEqual(run.reads, (("bore", "gauge", 5), ("bore", "spare", 6), ("bore", "gauge", 4)))
        run = retold(Book.of(keeper, [(0, news) for news in rows]), "fit", 1, ["bore"], ["spare", "gauge"])
        self.assertEqual((run.reads, run.kind), ((("bore", "spare", 6), ("bore", "gauge", 5)), "asks"))

    def test_marks_that_the_device_has_not(self):
        book = self.book(self.reading(10), self.reading(5), self.reading(-1), self.reading(1000), self.reading(6), self.reading(5))
        run = self.run_of(book)
        self.assertEqual((run.kind, self.marks(run)), ("done", [5, 6, 5]))

    def test_records_that_are_struck(self):
        book = self.book(self.reading(5), self.reading(9), self.reading(6), ("strike", 4), self.reading(6), ("strike", 6), ("strike", 3))
        self.assertEqual(self.marks(self.run_of(book, 4)), [5])
        self.is_ring(web_of(book, 5), self.raises(Clash, lambda: self.run_of(book, 5)).ring)
        self.assertEqual(self.marks(self.run_of(book, 7)), [5, 6])
        self.assertEqual(self.run_of(book, 7).kind, "asks")
        run = self.run_of(book, 8)
        self.assertEqual((run.kind, self.marks(run)), ("done", [5, 6, 6]))
        # With the strike struck the certificate and both marks do not go together.
        self.raises(Clash, lambda: self.run_of(book, 9))
        self.raises(Clash, lambda: self.run_of(book))

    def test_exchanged_devices(self):
        book = self.book(self.reading(5), self.reading(5), self.reading(5), ("stand", "gauge", "ring", 1, 1))
        run = self.run_of(book, 6)
        self.assertEqual((run.kind, run.rows[0]), ("done", ("told", "x", (40, 1), (60, 1), "length")))
        run = self.run_of(book)
        # The offset of the ring is not certified.
        self.assertEqual((run.kind, run.rows[0]), ("done", ("told", "x", (0, 1), (100, 1), "length")))
        self.assertEqual(run.slip.devices, ("ring", "ring"))
        self.assertEqual(run.web.links[-1][:2], (("bore", 0, 1), ("ring", 0, 1)))

    def test_a_device_that_is_nobody_now(self):
        book = self.book(self.reading(5), ("stand", "gauge", "nobody", 0, 2))
        self.assertEqual(self.run_of(book, 4).used, 1)
        run = self.run_of(book)
        self.assertEqual((run.kind, run.used, run.asked), ("nobody", 0, None))

    def test_renewed_procedures(self):
        book = self.book(self.reading(5), ("edition", "fit", "main", 1, 1))
        run = retold(book, "fit", 1, FEATURES, ROLES)
        self.assertEqual((run.kind, run.slip.procedure, run.rows), ("done", "main", (("told", "x", (40, 1), (60, 1), "length"),)))
        self.assertEqual(self.run_of(book, 4).kind, "asks")

    def test_what_is_known_later_changes_what_is_told(self):
        book = self.book(*[self.reading(5)] * 3)
        self.assertEqual(self.run_of(book).rows[0], ("told", "x", (40, 1), (60, 1), "length"))
        book.enter(2, ("cert", "bore", 0, 0, 0, 2, "ground", 0, 55, 57))
        self.assertEqual(self.run_of(book).rows[0], ("told", "x", (55, 1), (57, 1), "length"))
        self.assertEqual(self.run_of(book, 6).rows[0], ("told", "x", (40, 1), (60, 1), "length"))

    def test_clash(self):
        book = self.book(("cert", "dial", 0, 0, 0, 0, "ground", 0, 5, 5))
        self.is_ring(web_of(book), self.raises(Clash, lambda: self.run_of(book)).ring)
        self.assertEqual(self.run_of(book, 3).kind, "asks")

    def test_the_book_is_as_it_was(self):
        book = self.book(self.reading(5), self.reading(6))
        kept = book.copy()
        self.run_of(book)
        slip_of(book, "fit", 1, ["bore"], ["gauge", "gauge"])
        self.assertEqual(book, kept)
        # The same records again.
        self.assertEqual(self.run_of(book).rows, self.run_of(book).rows)

    def test_what_was_entered_is_retold(self):
        book = self.book()
        run = slip_of(book, "fit", 1, ["bore"], ["gauge", "gauge"])([5, 6, 5])
        enter_run(book, 1, run)
        self.assertEqual(self.run_of(book).rows, run.rows)
        self.assertEqual(self.run_of(book).reads, run.reads)


if __name__ == "__main__":
    unittest.main()
