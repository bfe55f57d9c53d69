"""How cards are written as rows of lines, and read from them."""

from ellwarden.cards import Card
from ellwarden.lines import Reader


def write_card(card):
    """The lines of a card."""
    lines = [f"card {len(card)}"]
    lines.extend([f"spot {name} {stretch} {day}" for name, stretch, day in card.spots])
    lines.extend([" ".join(["row"] + [str(bound) for bound in row]) for row in card.rows])
    return lines


def read_card(lines):
    """The card of some lines."""
    reader = Reader(lines)
    reader.head()
    reader.take_word("card")
    if reader.peek() == "0":
        reader.refuse()
    many = reader.take_number()
    reader.end_line()
    spots = []
    while len(spots) < many:
        spots.append(_take_spot(reader))
    rows = []
    while len(rows) < many:
        rows.append(_take_row(reader, many))
    reader.end_lines()
    return Card(spots, rows)


def _take_spot(reader):
    reader.head()
    reader.take_word("spot")
    name = reader.take_name("ground")
    stretch = reader.take_integer()
    day = reader.take_integer()
    reader.end_line()
    return (name, stretch, day)


def _take_row(reader, many):
    reader.head()
    reader.take_word("row")
    bounds = []
    while len(bounds) < many:
        bounds.append(reader.take_integer())
    reader.end_line()
    return bounds
