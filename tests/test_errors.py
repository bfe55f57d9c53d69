"""[1] and the interface: the errors, their base class, and what they keep."""

import unittest

from ellwarden import errors

TOLD = """
BadRatio(text) Nought(number) TooHigh(dimension) Mixed(left,right) BadTable(place) BadUnit(text)
Unknown(name) Twice(name) BadCharter(part,place) TooMany(kind) BadStep(procedure,step,kind,about)
Ring(name) TooLong(name) BadLine(line,word) BadWorld(place) BadSpot(place) BadLink(place) Loose(spot)
NoSpot(spot) Clash(ring) BadForm(place) NoPoint(point) NoQuotient(world) BadDay(day) BadNews(place)
NoNews(number) NoMoment(moment) BadSlip(part) Nobody(job) BadMark(place) NoRow(number) BadCard(place)
BadHouse(place) BadTie(place) Unlike(name) Apart(name) NoHouse(name) NoTie(sender,receiver)
NoLetter(number) NoTelling(number) TooLarge(number)
"""


def told_errors():
    for entry in TOLD.split():
        name, rest = entry[:-1].split("(")
        yield name, rest.split(",")


class Errors(unittest.TestCase):
    def test_base_class(self):
        self.assertEqual(errors.EllError.__bases__, (ValueError,))

    def test_each_error_is_directly_under_the_base_class(self):
        for name, _ in told_errors():
            self.assertEqual(getattr(errors, name).__bases__, (errors.EllError,), name)

    def test_each_error_keeps_its_arguments(self):
        for name, words in told_errors():
            given = [("about", name, number) for number in range(len(words))]
            error = getattr(errors, name)(*given)
            self.assertEqual([getattr(error, word) for word in words], given, name)
            by_name = getattr(errors, name)(**dict(zip(words, given)))
            self.assertEqual([getattr(by_name, word) for word in words], given, name)

    def test_each_error_asks_for_just_its_arguments(self):
        for name, words in told_errors():
            for many in (len(words) - 1, len(words) + 1):
                with self.assertRaises(TypeError, msg=name):
                    getattr(errors, name)(*["x"] * many)

    def test_each_error_can_be_caught_as_the_base_class_and_shown(self):
        for name, words in told_errors():
            with self.assertRaises(errors.EllError):
                raise getattr(errors, name)(*words)
            self.assertIsInstance(str(getattr(errors, name)(*words)), str)


if __name__ == "__main__":
    unittest.main()
