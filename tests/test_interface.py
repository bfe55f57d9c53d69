"""The interface: the names, arguments and methods that the document lists, where it lists them."""

import importlib
import inspect
import re
import unittest
from pathlib import Path

DOCUMENT = Path(__file__).resolve().parent.parent.parent / "shared" / "DOC.md"

TOLD = {
    "names": ("WORDS", "is_name(thing)"),
    "ratios": (
        "ratio(n, d=1)", "is_ratio(thing)", "plus(a, b)", "minus(a, b)", "times(a, b)", "over(a, b)", "compare(a, b)", "write_ratio(a)",
        "read_ratio(text)",
    ),
    "worlds": ("GROUND", "is_spot(thing)", "World(pairs)", "World.gap(a, b)", "World.keeps(link)", "higher(first, second)", "lower(first, second)"),
    "webs": (
        "Web(spots, links)", "Web.bound(a, b)", "Web.chain(a, b)", "Web.reaching(a, b)", "Web.bad_ring()", "Web.highest()", "Web.lowest()",
        "Web.allows(world)", "Web.more(links)", "Web.links_from(spot)",
    ),
    "dims": (
        "is_dimension(thing, many)", "multiplied(a, b)", "divided(a, b)", "base_dimension(bases, name)", "read_product(text, names)",
        "write_product(names, exponents)",
    ),
    "units": (
        "Units(bases, table=())", "Units.dimension_of(text)", "Units.factor_of(text)", "Units.one_form(text)", "Units.amount(number, text)",
        "Units.number_in(amount, text)", "Units.finer(base, many)",
    ),
    "amounts": ("Amount(number, dimension)", "Amount.compared(other)", "Amount.bare(number, many)"),
    "charters": (
        "Charter(*, days, bases, units=(), devices=(), features=(), roles=(), jobs=(), procedures=())", "Charter.sort_of(name)",
        "Charter.base_of(name)", "Charter.system()", "Charter.all_spots()", "Charter.own_links()", "Charter.changed(**parts)",
    ),
    "marks": (
        "stretches(device)", "stretch_of(device, mark)", "has_mark(device, mark)", "reading_links(device, feature, day, mark, why)",
        "marks_in(world, device, feature, day)",
    ),
    "expressions": (
        "kind_of(charter, procedure, expression, names=())",
        "quantity_of(charter, procedure, expression, day, features, devices, names=())", "steps_of(body)", "readings(charter, name)",
    ),
    "writing": ("write_expression(expression)", "write_procedure(procedure)", "write_charter(charter)"),
    "reading": ("read_expression(text)", "read_procedure(lines)", "read_charter(lines)"),
    "booktext": ("write_claim(charter, claim)", "write_book(book)", "read_book(lines)"),
    "claims": ("is_quantity(thing)", "is_claim(thing)", "value_in(world, quantity)", "is_good(value, G, N)", "is_bad(value, G, N)", "denies(world, claim)"),
    "books": (
        "Book(charter)", "Book.enter(day, news)", "Book.moment_of(day)", "Book.in_force(moment=None)", "Book.cut(moment)", "Book.copy()",
        "Book.of(charter, pairs)", "Book.moments()", "Trial(book)", "tried(book, rows)",
    ),
    "rosters": ("stands(book, role, day, moment=None)", "does(book, job, day, moment=None)", "roster(book, moment=None)"),
    "bookwebs": ("links_of(book, moment=None)", "web_of(book, moment=None)", "bearing(book, moment=None)", "web_without(book, numbers, moment=None)"),
    "forms": ("Form(terms=(), rest=(0, 1))", "Form.plain()", "Form.of(spot)"),
    "ends": ("End", "greatest(web, form)", "least(web, form)", "shown(web, form, paper)"),
    "shadows": ("Shadow(web, x, y)", "Shadow.world_at(point)"),
    "quantities": ("ends(web, quantity)", "Verdict", "verdict(web, quantity, G, N)"),
    "runs": ("Run", "Run.evidence(number)", "Run.quantity(number)", "Run.claims()", "Run.questions()"),
    "slips": (
        "Slip(charter, procedure, day, features, devices, web, roles=None)", "Slip.own_spots()", "Slip.trace(marks)",
        "slip_of(book, job, day, features, roles, moment=None)", "enter_run(book, day, run)", "retold(book, job, day, features, roles, moment=None)",
    ),
    "cardtext": ("write_card(card)", "read_card(lines)"),
    "pieces": ("pieces(web)", "put_together(web, worlds)", "follows(web, link)", "slim(web)"),
    "cards": ("Card(spots, rows)", "Card.cut(spots)", "Card.entered(a, b, bound)", "Card.as_web()", "card_of(web, spots)", "pressed(slip)"),
    "parting": ("parted(card, other)", "parter(charter, card, other)"),
    "leagues": (
        "League(houses, ties=())", "League.book_of(house)", "League.enter(house, day, news)", "League.neighbours(house)", "League.shared(sender, receiver)",
        "League.knows(house)", "League.send(sender, receiver)", "League.deliver(number)", "League.letter(number)", "League.kept(receiver, sender)",
        "League.horizon(house)", "League.copy()", "Held(league)", "attempted(league, deeds)",
    ),
    "settling": ("joined(league, moments)", "stale(league)", "settle(league)", "denied(league, house)"),
    "standing": ("denying(web, claim)", "state(book, number, moment=None)", "history(book, number)", "blame(book, number)", "Fallen(book, moment=None)"),
    "grounds": (
        "bears(book, numbers, claim, moment=None)", "grounds(book, claim, moment=None)", "ground(book, claim, moment=None)", "leaning(book, claim, moment=None)",
        "felling(book, claim, moment=None)", "doubts(book, moment=None)",
    ),
    "charts": ("chart_of(slip)", "behind(chart, marks)", "parting_marks(chart, other)", "pruned(chart)", "kept_marks(chart, marks)", "danger(slip)"),
    "probes": (
        "settles(web, questions, probes)", "pair(web, question, probes)", "paper(web, question, probes)", "judge_paper(web, question, probes, paper)",
        "fewest(web, questions, probes)",
    ),
    "plans": ("plan(charter, web, day, question, menu, *, most)", "answer(charter, web, day, question, menu, *, most)"),
    "grains": ("finer_charter(charter, base, many)", "finer(book, base, many)"),
}
SIGNS = {
    ("worlds", "World"): "getitem len iter contains eq",
    ("webs", "Web"): "contains len iter eq add",
    ("units", "Units"): "contains len iter eq",
    ("amounts", "Amount"): "add sub mul floordiv neg eq",
    ("charters", "Charter"): "getitem contains iter len eq",
    ("books", "Book"): "getitem len iter eq",
    ("books", "Trial"): "enter exit",
    ("forms", "Form"): "add sub neg mul eq call",
    ("shadows", "Shadow"): "len contains",
    ("quantities", "Verdict"): "bool",
    ("slips", "Slip"): "call",
    ("cards", "Card"): "getitem len iter contains eq and",
    ("leagues", "League"): "len",
    ("leagues", "Held"): "enter exit",
    ("standing", "Fallen"): "iter contains len bool",
}
HEADING = re.compile(r"## ellwarden/([a-z]+)[.]py")
CALL = re.compile(r"`([a-z_]+[(][^`]*[)])`")


class Interface(unittest.TestCase):
    def test_names_and_arguments(self):
        for file, entries in TOLD.items():
            module = importlib.import_module("ellwarden." + file)
            for entry in entries:
                name, _, arguments = entry.partition("(")
                thing = module
                for part in name.split("."):
                    self.assertIn(part, vars(thing), entry)
                    thing = getattr(thing, part)
                if arguments:
                    self.assertEqual(thing.__module__, module.__name__, entry)
                    self.assertEqual(self.arguments_of(thing, "." in name), "(" + arguments, entry)

    def arguments_of(self, thing, is_method):
        """The arguments that a caller passes; a method of a class is asked for its own object, too."""
        told = inspect.signature(thing)
        rows = list(told.parameters.values())
        if is_method and rows and rows[0].name == "self":
            rows = rows[1:]
        return str(told.replace(parameters=rows))

    @unittest.skipUnless(DOCUMENT.exists(), "the document is not at hand")
    def test_each_call_in_the_document_is_told_here(self):
        text = DOCUMENT.read_text()
        parts = HEADING.split(text[text.index("# The interface"):])
        for file, told in zip(parts[1::2], parts[2::2]):
            if file == "errors":
                continue
            names = {entry.partition("(")[0].split(".")[-1] for entry in TOLD[file]}
            for call in CALL.findall(told):
                word = call.partition("(")[0]
                if word not in ("len", "form", "slip"):
                    self.assertIn(word, names, file)
        self.assertEqual(set(parts[1::2]), set(TOLD) | {"errors"})

    def test_signs(self):
        for (file, name), words in SIGNS.items():
            found = vars(getattr(importlib.import_module("ellwarden." + file), name))
            for word in words.split():
                self.assertIn(f"__{word}__", found, name)

    def test_static_methods_and_class_values(self):
        from ellwarden.amounts import Amount
        from ellwarden.books import Book
        from ellwarden.charters import Charter
        from ellwarden.forms import Form
        from ellwarden.units import Units
        self.assertIsInstance(vars(Amount)["bare"], staticmethod)
        self.assertIsInstance(vars(Form)["of"], staticmethod)
        self.assertIsInstance(vars(Book)["of"], classmethod)
        self.assertEqual((Units.MOST, Charter.DAYS, Charter.SPOTS, Book.MOST), (12, 20, 240, 60))

    def test_generators(self):
        from ellwarden.books import Book
        from ellwarden.expressions import steps_of
        from ellwarden.slips import Slip
        from ellwarden.webs import Web
        for made in (steps_of, Web.links_from, Book.moments, Slip.trace):
            self.assertTrue(inspect.isgeneratorfunction(made))


if __name__ == "__main__":
    unittest.main()
