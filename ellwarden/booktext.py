"""How books and claims are written as rows of lines, and how books are read from them."""

from ellwarden.books import Book
from ellwarden.charters import Charter
from ellwarden.claims import forms_of
from ellwarden.dims import write_product
from ellwarden.lines import Reader
from ellwarden.ratios import write_ratio
from ellwarden.reading import take_parts
from ellwarden.writing import write_charter

# What stands behind the word of each news other than `told`, in order.
ITEMS = {
    "cert": ("name", "number", "number", "number", "number", "ground", "number", "number", "number"),
    "read": ("name", "name", "number", "number"),
    "stand": ("name", "nobody", "number", "number"),
    "jolt": ("name", "number"),
    "edition": ("name", "nobody", "number", "number"),
    "strike": ("number",),
}


def write_claim(charter, claim):
    """The words of a claim, which stand behind `told`."""
    word, quantity, first, second = claim
    words = [word, quantity[0]]
    for form in forms_of(quantity):
        words.extend(_form_words(form))
    if quantity[0] != "sum":
        words.append(write_ratio(quantity[3]))
    words.append(write_product(charter.bases, quantity[-1]))
    words.append(write_ratio(first))
    words.append(write_ratio(second))
    return " ".join(words)


def _form_words(form):
    terms, rest = form
    words = [str(len(terms))]
    for (name, stretch, day), factor in terms:
        words.extend([name, str(stretch), str(day), write_ratio(factor)])
    words.append(write_ratio(rest))
    return words


def write_book(book):
    """The lines of a book."""
    lines = write_charter(book.charter)
    for day, news in book:
        if news[0] == "told":
            lines.append(f"news {day} told {write_claim(book.charter, news[1])}")
        else:
            lines.append(" ".join(["news", str(day)] + [str(item) for item in news]))
    return lines


def read_book(lines):
    """The book of some lines."""
    reader = Reader(lines)
    parts = take_parts(reader)
    pairs = []
    while reader.head() == "news":
        reader.take()
        day = reader.take_integer()
        pairs.append((day, _take_news(reader, parts["bases"])))
        reader.end_line()
    reader.end_lines()
    return Book.of(Charter(**parts), pairs)


def _take_news(reader, bases):
    if reader.peek() == "told":
        return (reader.take(), _take_claim(reader, bases))
    words = list(ITEMS)
    word = reader.take_word(*words)
    return (word, *[_take_item(reader, sort) for sort in ITEMS[word]])


def _take_item(reader, sort):
    """An integer, or a name; where a word can stand for one, it is that of its sort."""
    if sort == "number":
        return reader.take_integer()
    return reader.take_name() if sort == "name" else reader.take_name(sort)


def _take_claim(reader, bases):
    word = reader.take_word("within", "passed", "failed")
    quantity = _take_quantity(reader, bases)
    first = reader.take_ratio()
    return (word, quantity, first, reader.take_ratio())


def _take_quantity(reader, bases):
    word = reader.take_word("sum", "product", "quotient")
    if word == "sum":
        form = _take_form(reader)
        return (word, form, reader.take_dimension(bases))
    x = _take_form(reader)
    y = _take_form(reader)
    scale = reader.take_ratio()
    return (word, x, y, scale, reader.take_dimension(bases))


def _take_form(reader):
    terms = []
    for _ in range(reader.take_number()):
        name = reader.take_name()
        stretch = reader.take_integer()
        spot = (name, stretch, reader.take_integer())
        terms.append((spot, reader.take_ratio()))
    return (tuple(terms), reader.take_ratio())
