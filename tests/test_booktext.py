"""[27], [29] how books and claims are written, and how books are read; BadLine with the first word that cannot stand there."""

import random
import unittest

from ellwarden.books import Book
from ellwarden.booktext import read_book, write_book, write_claim
from ellwarden.errors import BadCharter, BadDay, BadNews, NoNews, TooMany, Twice
from ellwarden.names import WORDS
from ellwarden.writing import write_charter
from linesamples import LineCase
from samples import LINES, charter, keeper, ratios, spot_form

KEEPER = keeper()
HEAD = write_charter(KEEPER)
AT = len(HEAD)
HEADS = ("base", "unit", "device", "feature", "role", "job", "procedure")
BORE, DIAL, BEAT = ("bore", 0, 1), ("dial", 2, 0), ("beat", 0, 2)
BARE = ((), (-7, 2))
CLAIMS = (
    (("within", ("sum", spot_form(BORE), (1, 0)), (1, 2), (5, 1)), "within sum 1 bore 0 1 1 0 length 1/2 5"),
    (("passed", ("sum", spot_form((BORE, (-2, 3)), DIAL, rest=(9, 4)), (1, 0)), (3, 1), (-1, 3)), "passed sum 2 bore 0 1 -2/3 dial 2 0 1 9/4 length 3 -1/3"),
    (("failed", ("sum", BARE, (0, 0)), (0, 1), (1, 1)), "failed sum 0 -7/2 1 0 1"),
    (("within", ("sum", BARE, (-1, -2)), (0, 1), (0, 1)), "within sum 0 -7/2 1/length/time^2 0 0"),
    (("within", ("product", spot_form(BORE), BARE, (-1, 4), (1, 2)), (0, 1), (1, 1)), "within product 1 bore 0 1 1 0 0 -7/2 -1/4 length*time^2 0 1"),
    (("failed", ("quotient", spot_form(DIAL, rest=(1, 1)), spot_form(BEAT), (0, 1), (1, -1)), (2, 1), (1, 1)), "failed quotient 1 dial 2 0 1 1 1 beat 0 2 1 0 0 length/time 2 1"),
)
PAIRS = (
    (0, ("cert", "dial", 0, 2, 0, 2, "ring", 0, -5, 10 ** 9), "cert dial 0 2 0 2 ring 0 -5 1000000000"),
    (0, ("cert", "bore", 0, 0, 1, 2, "ground", 0, 0, 0), "cert bore 0 0 1 2 ground 0 0 0"),
    (0, ("read", "bore", "gauge", 1, -4), "read bore gauge 1 -4"),
    (1, ("stand", "gauge", "dial", 0, 2), "stand gauge dial 0 2"),
    (1, ("stand", "timer", "nobody", 1, 1), "stand timer nobody 1 1"),
    (1, ("jolt", "dial", 2), "jolt dial 2"),
    (2, ("edition", "fit", "first", 0, 2), "edition fit first 0 2"),
    (2, ("edition", "weigh", "nobody", 2, 2), "edition weigh nobody 2 2"),
    (2, ("strike", 3), "strike 3"),
    (2, ("strike", 8), "strike 8"),
) + tuple((2, ("told", claim), "told " + text) for claim, text in CLAIMS)


class Writing(LineCase):
    def test_claims(self):
        for claim, text in CLAIMS:
            self.assertEqual(write_claim(KEEPER, claim), text)

    def test_dimensions_of_another_charter(self):
        claim = ("within", ("sum", BARE, (2,)), (0, 1), (1, 1))
        self.assertEqual(write_claim(charter(), claim), "within sum 0 -7/2 length^2 0 1")

    def test_books(self):
        self.assertEqual(write_book(Book(KEEPER)), HEAD)
        book = Book.of(KEEPER, [(day, news) for day, news, _ in PAIRS])
        lines = HEAD + [f"news {day} {text}" for day, _, text in PAIRS]
        self.assertEqual(write_book(book), lines)
        self.assertIs(type(write_book(book)), list)
        self.assertNotIn("", lines)

    def test_lists_belong_to_the_caller(self):
        book = Book(charter())
        write_book(book).clear()
        self.assertEqual(write_book(book), LINES)


class Reading(LineCase):
    def test_each_news(self):
        lines = HEAD + [f"news {day} {text}" for day, _, text in PAIRS]
        book = read_book(lines)
        self.assertIsInstance(book, Book)
        self.assertEqual(list(book), [(day, news) for day, news, _ in PAIRS])
        self.assertEqual(book, read_book(tuple(lines)))
        self.assertEqual(read_book(HEAD), Book(KEEPER))

    def test_other_forms_of_dimensions(self):
        for text, dimension in (("length*time/length*length^-1", (-1, 1)), ("1", (0, 0)), ("time/time", (0, 0))):
            book = read_book(HEAD + [f"news 0 told within sum 0 1 {text} 0 1"])
            self.assertEqual(book[0][1][1][1], ("sum", ((), (1, 1)), dimension))

    def test_empty_lines_are_skipped_and_count(self):
        lines = [""]
        for line in HEAD + ["news 0 jolt dial 1", "news 1 strike 0"]:
            lines += [line, "", ""]
        self.assertEqual(list(read_book(lines)), [(0, ("jolt", "dial", 1)), (1, ("strike", 0))])
        self.bad(read_book, lines + ["news 1 strikes 0"], len(lines), 2)

    def test_what_is_written_is_read_back(self):
        rng = random.Random(29)
        spots = [("bore", 0, 0), ("bore", 0, 2), ("slot", 0, 1), ("dial", 0, 0), ("dial", 1, 2), ("ring", 0, 1)]

        def ratio():
            return rng.choice(((0, 1), (1, 1), (-3, 2), (10 ** 40 + 1, 10 ** 40), (7, 3)))

        def form():
            found = [(spot, rng.choice(((1, 1), (-5, 3), (2, 7)))) for spot in rng.sample(spots, rng.randint(0, 6))]
            return spot_form(*found, rest=ratio())

        for _ in range(60):
            book = Book(KEEPER)
            for number in range(12):
                quantity = rng.choice((("sum", form(), (1, 0)), ("product", form(), form(), ratio(), (2, -9)), ("quotient", form(), form(), ratio(), (0, 0))))
                limits = rng.choice((("within", (-1, 3), (5, 1)), ("passed", (4, 1), (3, 1)), ("failed", (1, 2), (2, 3))))
                told = ("told", (limits[0], quantity) + limits[1:])
                book.enter(number // 5, rng.choice((told, told, ("strike", number - 1) if number else told, PAIRS[number % 8][1])))
            self.assertEqual(read_book(write_book(book)), book)
            self.assertEqual(write_book(read_book(write_book(book))), write_book(book))


class BadLines(LineCase):
    WORDS = ("cert", "read", "stand", "jolt", "edition", "strike", "told")

    def spoil(self, pattern):
        """One line of news, spoilt in every way."""
        # Whether there are such things is no matter of BadLine.
        head = ["days 3", "base length", "base time"]
        pattern = [("news", HEADS + ("news",)), ("0", "integer")] + pattern
        line = " ".join(word for word, _ in pattern)
        self.bad_line(read_book, head + [line, "news 0 jolt dial 1"], 3, pattern, (), "zzz")
        self.bad_line(read_book, head + [line], 3, pattern, (), "5")

    def test_each_news_spoilt(self):
        number = ("0", "integer")
        self.spoil([("cert", self.WORDS), ("dial", "name"), number, ("2", "integer"), number, ("2", "integer"), ("ring", "ground"), number, ("-5", "integer"), ("5", "integer")])
        self.spoil([("cert", self.WORDS), ("dial", "name"), number, number, number, number, ("ground", "ground"), number, number, number])
        self.spoil([("read", self.WORDS), ("bore", "name"), ("gauge", "name"), number, ("-4", "integer")])
        self.spoil([("stand", self.WORDS), ("gauge", "name"), ("dial", "nobody"), number, number])
        self.spoil([("stand", self.WORDS), ("gauge", "name"), ("nobody", "nobody"), number, number])
        self.spoil([("jolt", self.WORDS), ("dial", "name"), ("1", "integer")])
        self.spoil([("edition", self.WORDS), ("fit", "name"), ("first", "nobody"), number, number])
        self.spoil([("edition", self.WORDS), ("fit", "name"), ("nobody", "nobody"), number, number])
        self.spoil([("strike", self.WORDS), ("0", "integer")])

    def test_each_claim_spoilt(self):
        words, sorts = ("within", "passed", "failed"), ("sum", "product", "quotient")
        told = ("told", self.WORDS)
        rest, dimension, limits = ("1/2", "ratio"), ("length", "dimension"), [("0", "ratio"), ("5/3", "ratio")]
        bore = [("bore", "name"), ("0", "integer"), ("1", "integer"), ("2/3", "ratio")]
        dial = [("dial", "name"), ("2", "integer"), ("0", "integer"), ("-1", "ratio")]
        self.spoil([told, ("within", words), ("sum", sorts), ("0", "number"), rest, dimension] + limits)
        self.spoil([told, ("passed", words), ("sum", sorts), ("1", "number")] + bore + [rest, dimension] + limits)
        self.spoil([told, ("failed", words), ("sum", sorts), ("2", "number")] + bore + dial + [rest, dimension] + limits)
        self.spoil([told, ("within", words), ("product", sorts), ("1", "number")] + bore + [rest, ("0", "number"), rest, ("-3/2", "ratio"), dimension] + limits)
        self.spoil([told, ("failed", words), ("quotient", sorts), ("0", "number"), rest, ("1", "number")] + dial + [rest, ("1", "ratio"), dimension] + limits)

    def test_names_of_spots(self):
        self.bad(read_book, HEAD + ["news 0 told within sum 1 ground 0 0 1 0 length 0 1"], AT, 6)
        self.bad(read_book, HEAD + ["news 0 told within sum 1 nobody 0 0 1 0 length 0 1"], AT, 6)

    def test_ground_and_nobody_just_where_they_may_stand(self):
        for line, word in (
            ("cert ground 0 0 0 0 dial 0 0 0", 3), ("cert dial 0 0 0 0 nobody 0 0 0", 8), ("read ground gauge 0 0", 3), ("read bore nobody 0 0", 4), ("stand nobody dial 0 0", 3),
            ("stand gauge ground 0 0", 4), ("jolt ground 1", 3), ("edition nobody first 0 0", 3), ("edition fit ground 0 0", 4), ("strike nobody", 3),
        ):
            self.bad(read_book, HEAD + ["news 0 " + line], AT, word)

    def test_a_number_of_terms_that_is_not_there(self):
        line = "news 0 told within sum {} bore 0 1 1 0 length 0 1"
        self.assertEqual(len(read_book(HEAD + [line.format(1)])), 1)
        for many, word in (("0", 6), ("2", 10), ("3", 10), ("-1", 5), ("-0", 5), ("1/2", 5), ("9" * 30, 10), ("9" * 31, 5)):
            self.bad(read_book, HEAD + [line.format(many)], AT, word)
        # As many terms as told, but the line ends within them.
        self.bad(read_book, HEAD + ["news 0 told within sum 2 bore 0 1 1 slot 0"], AT, 12)

    def test_words_at_the_start_of_a_line(self):
        for word in WORDS + ("zzz", "5"):
            if word not in ("news", "procedure"):
                self.bad(read_book, HEAD + [word + " 0 jolt dial 1"], AT, 0)
            if word != "news":
                self.bad(read_book, HEAD + ["news 0 jolt dial 1", word + " 0 jolt dial 1"], AT + 1, 0)
        self.bad(read_book, ["news 0 jolt dial 1"], 0, 0)
        self.bad(read_book, [], 0, 0)
        self.bad(read_book, ["days 3", "news 0 jolt dial 1", "base length"], 2, 0)

    def test_each_word_behind_the_day(self):
        for word in WORDS + ("zzz", "5", ""):
            if word not in self.WORDS:
                self.bad(read_book, HEAD + [f"news 0 {word} bore gauge 0 0"], AT, 2)

    def test_300_and_301_words(self):
        term = " bore 0 1 1"
        for many, line in ((300, "news 0 told within product 72" + term * 72 + " 0 0 0 1 length 0"), (301, "news 0 told within product 72" + term * 72 + " 0 0 0 1 length 0 1")):
            self.assertEqual(len(line.split(" ")), many)
            self.bad(read_book, HEAD + [line], AT, 300)
        line = "news 0 told within sum 72" + term * 72 + " 0 length 0 1"
        self.assertEqual(len(line.split(" ")), 298)
        self.raises(BadNews, lambda: read_book(HEAD + [line]), place=1)
        self.bad(read_book, HEAD + [line + " 1 1 1"], AT, 298)
        self.bad(read_book, HEAD + ["news 0 told within sum 74" + term * 74], AT, 300)
        self.bad(read_book, HEAD + ["news 0 told within sum 73" + term * 73 + " 0 length 1 1"], AT, 300)

    def test_integers_of_30_and_31_digits(self):
        for sign in ("", "-"):
            self.raises(NoNews, lambda: read_book(HEAD + [f"news 0 strike {sign}{'9' * 30}"]), number=int(sign + "9" * 30))
            self.bad(read_book, HEAD + [f"news 0 strike {sign}{'9' * 31}"], AT, 3)
        # Ratios can have more digits than integers.
        book = read_book(HEAD + [f"news 0 told within sum 0 {'9' * 400} length 0 1/{'9' * 400}"])
        self.assertEqual(book[0][1][1], ("within", ("sum", ((), (10 ** 400 - 1, 1)), (1, 0)), (0, 1), (1, 10 ** 400 - 1)))
        self.bad(read_book, HEAD + [f"news 0 told within sum 0 {'9' * 401} length 0 1"], AT, 6)


class Order(LineCase):
    def test_bad_line_ahead_of_what_charter_and_book_raise(self):
        for lines, error in (
            (["days 99", "base length"], BadCharter), (["days 3", "base length", "base length"], Twice), (["days 3"], TooMany), (HEAD + ["news 9 jolt dial 1"], BadDay),
            (HEAD + ["news 0 jolt dial 0"], BadNews), (HEAD + ["news 0 strike 0"], NoNews),
        ):
            with self.assertRaises(error):
                read_book(lines)
            self.bad(read_book, lines + ["news 0 jolt dial"], len(lines), 4)
            self.bad(read_book, lines + ["news 0 jolt dial 0", "x"], len(lines) + 1, 0)

    def test_the_charter_ahead_of_the_news(self):
        self.raises(BadCharter, lambda: read_book(["days 99", "base length", "news 0 strike 0"]), part="days", place=-1)
        self.raises(Twice, lambda: read_book(["days 3", "base length", "base length", "news 7 strike 0"]), name="length")

    def test_what_is_bad_but_no_matter_of_bad_line(self):
        for line, place in (
            ("cert none 0 0 0 0 ground 0 0 0", 1), ("cert dial 0 3 0 0 ground 0 0 0", 3), ("cert dial 0 0 0 0 ground 1 0 0", 7), ("read dial gauge 0 0", 1), ("read bore gauge 0 9999", 4),
            ("stand gauge bore 0 0", 2), ("jolt dial 0", 2), ("edition fit fit 0 0", 2), ("told within sum 1 none 0 0 1 0 length 0 1", 1), ("told within sum 1 bore 0 0 0 0 length 0 1", 1),
            ("told within sum 1 bore 0 0 1 0 time 0 1", 1), ("told within sum 0 0 length 2 1", 1), ("told passed sum 0 0 length 1 1", 1), ("told within sum 2 slot 0 0 1 bore 0 0 1 0 length 0 1", 1),
        ):
            self.raises(BadNews, lambda: read_book(HEAD + ["news 0 " + line]), place=place)
        self.raises(BadDay, lambda: read_book(HEAD + ["news 1 jolt dial 1", "news 0 jolt none 1"]), day=0)
        self.raises(BadDay, lambda: read_book(HEAD + ["news -1 jolt dial 1"]), day=-1)
        self.raises(TooMany, lambda: read_book(HEAD + ["news 0 jolt dial 1"] * 61), kind="news")
        self.assertEqual(len(read_book(HEAD + ["news 0 jolt dial 1"] * 60)), 60)


class Examples(unittest.TestCase):
    def test_the_example_of_the_document(self):
        book = read_book(LINES + ["news 1 read bore gauge 2 5", "news 1 told within sum 1 bore 0 2 1 0 length 870 1130"])
        self.assertEqual(book, Book.of(charter(), [
            (1, ("read", "bore", "gauge", 2, 5)), (1, ("told", ("within", ("sum", spot_form(("bore", 0, 2)), (1,)), *ratios(870, 1130)))),
        ]))


if __name__ == "__main__":
    unittest.main()
