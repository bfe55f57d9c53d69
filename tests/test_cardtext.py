"""[27], [29] the lines of a card: how they are written, and read; BadLine, then BadCard."""

import random
import unittest

from ellwarden.cards import Card, card_of
from ellwarden.cardtext import read_card, write_card
from ellwarden.errors import BadCard
from ellwarden.names import WORDS
from ellwarden.worlds import GROUND
from linesamples import LineCase
from test_ends import web_with_a_world

BORE, DIAL = ("bore", 0, 3), ("dial", -2, 1)
CARD = Card((GROUND, BORE, DIAL), ((0, 9, 4), (-2, 0, 2), (3, 5, 0)))
LINES = ["card 3", "spot ground 0 0", "spot bore 0 3", "spot dial -2 1", "row 0 9 4", "row -2 0 2", "row 3 5 0"]
ALONE = ["card 1", "spot ground 0 0", "row 0"]


class Writing(LineCase):
    def test_lines(self):
        self.assertEqual(write_card(CARD), LINES)
        self.assertIs(type(write_card(CARD)), list)
        self.assertEqual(write_card(Card([GROUND], [[0]])), ALONE)

    def test_lists_belong_to_the_caller(self):
        write_card(CARD).clear()
        self.assertEqual(write_card(CARD), LINES)

    def test_what_is_written_is_read_back(self):
        rng = random.Random(29)
        for _ in range(40):
            web = web_with_a_world(rng, 6, 8)
            card = card_of(web, rng.sample(web.spots, rng.randint(0, 7)))
            self.assertEqual(read_card(write_card(card)), card)
            self.assertEqual(write_card(read_card(write_card(card))), write_card(card))


class Reading(LineCase):
    def test_cards(self):
        self.assertEqual(read_card(LINES), CARD)
        self.assertEqual(read_card(tuple(LINES)), CARD)
        self.assertEqual(read_card(ALONE), Card([GROUND], [[0]]))
        self.assertIsInstance(read_card(LINES), Card)

    def test_empty_lines_are_skipped_and_count(self):
        lines = ["", ""]
        for line in LINES:
            lines += [line, "", ""]
        self.assertEqual(read_card(lines), CARD)
        self.bad(read_card, lines + ["row"], len(lines), 0)
        self.bad(read_card, ["", "", "cards 1"], 2, 0)
        self.bad(read_card, ["", "card 1", "", "spot ground 0", "row 0"], 3, 3)

    def test_long_integers(self):
        for much in ("9" * 30, "1" + "0" * 29):
            lines = ["card 2", "spot ground 0 0", f"spot bore {much} -{much}", f"row 0 {much}", f"row -{much} 0"]
            card = read_card(lines)
            self.assertEqual(card[GROUND, ("bore", int(much), -int(much))], int(much))
            self.assertEqual(write_card(card), lines)
        for place, line in ((2, "spot bore 9 9"), (3, "row 0 9"), (4, "row 9 0")):
            lines = ["card 2", "spot ground 0 0", "spot bore 9 9", "row 0 9", "row 9 0"]
            for sign in ("", "-"):
                at = line.split(" ").index("9")
                lines[place] = " ".join(sign + "9" * 31 if word == "9" else word for word in line.split(" "))
                self.bad(read_card, lines, place, at)

    def test_the_ground_in_lines_of_spots(self):
        # Whether it stands at its place is judged by the card.
        self.raises(BadCard, lambda: read_card(["card 2", "spot bore 0 0", "spot ground 0 0", "row 0 1", "row 1 0"]), place=0)
        self.raises(BadCard, lambda: read_card(["card 2", "spot ground 0 0", "spot ground 0 0", "row 0 1", "row 1 0"]), place=1)
        self.assertEqual(read_card(["card 2", "spot ground 0 0", "spot ground 0 1", "row 0 1", "row 1 0"]).spots, (GROUND, ("ground", 0, 1)))

    def test_no_word_of_the_language_is_a_name(self):
        for word in WORDS:
            if word != "ground":
                self.bad(read_card, LINES[:2] + [f"spot {word} 0 3"] + LINES[3:], 2, 1)


class BadLines(LineCase):
    def test_each_word_of_each_line(self):
        spot = [("spot", "spot"), ("bore", "ground"), ("0", "integer"), ("3", "integer")]
        self.bad_line(read_card, LINES, 0, [("card", "card"), ("3", "many")], (), "zzz")
        self.bad_line(read_card, LINES, 0, [("card", "card"), ("3", "many")], (), "3")
        self.bad_line(read_card, LINES, 2, spot, (), "zzz")
        self.bad_line(read_card, LINES, 2, spot, (), "0")
        self.bad_line(read_card, LINES, 1, [("spot", "spot"), ("ground", "ground"), ("0", "integer"), ("0", "integer")], (), "0")
        for at in (4, 5, 6):
            row = [("row", "row")] + [(word, "integer") for word in LINES[at].split(" ")[1:]]
            self.bad_line(read_card, LINES, at, row, (), "zzz")
            self.bad_line(read_card, LINES, at, row, (), "0")
        self.bad_line(read_card, ALONE, 2, [("row", "row"), ("0", "integer")], (), "0")

    def test_words_doubled_and_exchanged(self):
        # What is behind a word that comes twice stands one place further, or goes too far.
        self.bad(read_card, ["card card 3"] + LINES[1:], 0, 1)
        self.bad(read_card, ["3 card"] + LINES[1:], 0, 0)
        self.bad(read_card, LINES[:2] + ["spot bore bore 0 3"] + LINES[3:], 2, 2)
        self.bad(read_card, LINES[:2] + ["spot 0 bore 3"] + LINES[3:], 2, 1)
        self.bad(read_card, LINES[:4] + ["row row 0 9 4"] + LINES[5:], 4, 1)
        self.bad(read_card, LINES[:4] + ["row 0 0 9 4"] + LINES[5:], 4, 4)
        self.bad(read_card, LINES[:4] + ["0 row 9 4"] + LINES[5:], 4, 0)

    def test_lines_left_out(self):
        self.bad(read_card, [], 0, 0)
        self.bad(read_card, [""], 1, 0)
        for at in range(7):
            lines = LINES[:at] + LINES[at + 1:]
            self.bad(read_card, LINES[:at], at, 0)
            self.bad(read_card, LINES[:at] + ["", ""], at + 2, 0)
            if at == 0:
                self.bad(read_card, lines, 0, 0)
            elif at < 4:
                # There is one spot too few, so the first row comes too soon.
                self.bad(read_card, lines, 3, 0)
            else:
                self.bad(read_card, lines, 6, 0)

    def test_lines_doubled(self):
        for at in range(7):
            lines = LINES[:at + 1] + LINES[at:]
            self.bad(read_card, lines, 1 if at == 0 else 4 if at < 4 else 7, 0)

    def test_lines_exchanged(self):
        self.bad(read_card, [LINES[1], LINES[0]] + LINES[2:], 0, 0)
        self.bad(read_card, LINES[:3] + [LINES[4], LINES[3]] + LINES[5:], 3, 0)
        # Spots among themselves and rows among themselves are a matter of the card.
        self.raises(BadCard, lambda: read_card([LINES[0], LINES[2], LINES[1]] + LINES[3:]), place=0)
        self.raises(BadCard, lambda: read_card(LINES[:4] + [LINES[5], LINES[4], LINES[6]]), place=0)

    def test_numbers_of_spots_that_are_not_as_told(self):
        self.bad(read_card, ["card 2"] + LINES[1:], 3, 0)
        self.bad(read_card, ["card 1"] + LINES[1:], 2, 0)
        self.bad(read_card, ["card 4"] + LINES[1:], 4, 0)
        self.bad(read_card, ["card " + "9" * 30] + LINES[1:], 4, 0)
        for number in ("0", "-1", "-3"):
            self.bad(read_card, [f"card {number}"] + LINES[1:], 0, 1)
            self.bad(read_card, [f"card {number}"], 0, 1)
        self.bad(read_card, ["card 2", *ALONE[1:]], 2, 0)

    def test_numbers_of_bounds_that_are_not_as_told(self):
        for at in (4, 5, 6):
            words = LINES[at].split(" ")
            for many in range(1, 4):
                self.bad(read_card, LINES[:at] + [" ".join(words[:many])] + LINES[at + 1:], at, many)
            for more in ("0", "5 5", "zzz", "row"):
                self.bad(read_card, LINES[:at] + [LINES[at] + " " + more] + LINES[at + 1:], at, 4)

    def test_bad_line_ahead_of_bad_card(self):
        lines = ["card 2", "spot bore 0 0", "spot bore 0 0", "row 5 5", "row 5 x"]
        self.bad(read_card, lines, 4, 2)
        lines[4] = "row 5 5 5"
        self.bad(read_card, lines, 4, 3)
        lines[4] = "row 5 5"
        self.raises(BadCard, lambda: read_card(lines), place=0)
        self.bad(read_card, lines + ["row 0 0"], 5, 0)
        lines[1] = "spot ground 0 0"
        self.raises(BadCard, lambda: read_card(lines), place=0)
        lines[3] = "row 0 5"
        self.raises(BadCard, lambda: read_card(lines), place=1)
        lines[4] = "row -6 0"
        self.raises(BadCard, lambda: read_card(lines), place=-1)
        lines[4] = "row -5 0"
        self.assertEqual(read_card(lines).rows, ((0, 5), (-5, 0)))

    def test_words_that_are_too_many_for_a_line(self):
        spots = [GROUND] + [("s", 0, number) for number in range(299)]
        lines = ["card 300"] + [f"spot {name} {stretch} {day}" for name, stretch, day in spots]
        lines += [" ".join(["row"] + ["0"] * 300)] * 300
        self.bad(read_card, lines, 301, 300)
        lines = ["card 299"] + lines[1:300] + [" ".join(["row"] + ["0"] * 299)] * 299
        self.assertEqual(len(read_card(lines)), 299)


if __name__ == "__main__":
    unittest.main()
