"""How charters, procedures and expressions are read from rows of lines."""

from ellwarden.charters import Charter
from ellwarden.lines import Reader
from ellwarden.phrases import take_body, take_end, take_expression

# The words in front of the entries of a charter's parts, in the order of the parts.
ENTRIES = (
    ("base", "bases"),
    ("unit", "units"),
    ("device", "devices"),
    ("feature", "features"),
    ("role", "roles"),
    ("job", "jobs"),
    ("procedure", "procedures"),
)
DEVICE_NUMBERS = 9
FEATURE_NUMBERS = 4


def read_expression(text):
    """The expression of a text."""
    reader = Reader([text])
    made = take_expression(reader)
    reader.end_line()
    return made


def read_procedure(lines):
    """The tuple of a procedure, as it is written; it is not judged."""
    reader = Reader(lines)
    reader.head()
    made = _take_procedure(reader)
    reader.end_lines()
    return made


def read_charter(lines):
    """The charter of some lines."""
    reader = Reader(lines)
    parts = take_parts(reader)
    reader.end_lines()
    return Charter(**parts)


def take_parts(reader):
    """The dict of the parts of a charter, which are not judged yet."""
    reader.head()
    reader.take_word("days")
    parts = {"days": reader.take_integer()}
    reader.end_line()
    for word, part in ENTRIES:
        entries = []
        while reader.head() == word:
            entries.append(_take_entry(reader, word, parts))
        parts[part] = entries
    return parts


def _take_entry(reader, word, parts):
    """An entry of a part, with all its lines; parts has those that came before."""
    if word == "procedure":
        return _take_procedure(reader)
    reader.take()
    entry = reader.take_name()
    if word == "unit":
        dimension = reader.take_dimension(parts["bases"])
        entry = (entry, dimension, reader.take_ratio())
    if word == "device":
        numbers = _take_numbers(reader, DEVICE_NUMBERS)
        entry = (entry, *numbers, _take_cuts(reader))
    if word == "feature":
        entry = (entry, *_take_numbers(reader, FEATURE_NUMBERS))
    if word == "role":
        entry = (entry, reader.take_name())
    reader.end_line()
    return entry


def _take_numbers(reader, many):
    """The base of a thing, and the integers behind it."""
    base = reader.take_name()
    return (base, *[reader.take_integer() for _ in range(many)])


def _take_cuts(reader):
    cuts = []
    while reader.peek() is not None:
        cuts.append(reader.take_integer())
    return tuple(cuts)


def _take_procedure(reader):
    """The tuple of a procedure, with its line reached."""
    reader.take_word("procedure")
    name = reader.take_name()
    reader.end_line()
    features = _take_parameters(reader, "takes")
    roles = _take_parameters(reader, "uses")
    body = take_body(reader)
    take_end(reader)
    return (name, features, roles, body)


def _take_parameters(reader, word):
    pairs = []
    while reader.head() == word:
        reader.take()
        name = reader.take_name()
        pairs.append((name, reader.take_name()))
        reader.end_line()
    return tuple(pairs)
