"""How the tests of lines spoil them: a pattern tells of each word of a line what its place asks."""

from ellwarden.errors import BadLine
from samples import Case

# For each kind of place, words that cannot stand there. What is behind a place may be anything.
NO_NAME = ("", "5", "Abc", "a1", "a-b", "bor^e", "abcdefghijklm", "size", "end", "ground", "nobody", "read", "(", "+", "-", "/", "1/2", "b\tc", "b.")
NO_INTEGER = ("", "a", "05", "00", "-0", "+1", "--1", "-", "1.0", "1/2", "1x", "1_0", "size", "9" * 31, "-" + "9" * 31, "0x1", "\u0663", "1e3")
NO_RATIO = ("", "a", "2/4", "1/1", "01", "-0", "1/0", "0/3", "1/-2", "1/", "/2", "-", "+1", "1/2/3", "1.5", "1/02", "9" * 401, "1/" + "9" * 401, "size", "\u0663")
NO_DIMENSION = ("", "mm", "length*", "*length", "1/", "length^0", "length^1^2", "length*length^9", "2", "-1", "size", "bore", "length**mass", "0", "length^10")
BAD = {
    "name": NO_NAME,
    "integer": NO_INTEGER,
    "number": NO_INTEGER + ("-1", "-12"),
    "many": NO_INTEGER + ("-1", "-12", "0"),
    "ratio": NO_RATIO,
    "dimension": NO_DIMENSION,
    "text": ("",),
    "ground": tuple(word for word in NO_NAME if word != "ground"),
    "nobody": tuple(word for word in NO_NAME if word != "nobody"),
}


def spoilt(pattern):
    """For a pattern of words, each with what its place asks, the pairs of a line and of the place
    of its first bad word. A place asks for a kind of BAD; for a word of the language: itself; or
    for what may stand there: a tuple of all such words."""
    words = [word for word, _ in pattern]
    for place, (word, asked) in enumerate(pattern):
        if asked in BAD:
            bad = BAD[asked]
        else:
            lets = asked if isinstance(asked, tuple) else (asked,)
            bad = [other for other in ("", "zzz", "Bad", "%", "job", "7/3", "by", "uses", "nobody", "(") if other not in lets]
            if "name" in lets:
                bad.remove("zzz")
            if "ratio" in lets:
                bad.remove("7/3")
            if "(" in lets:
                assert "(" not in bad
        for other in bad:
            line = " ".join(words[:place] + [other] + words[place + 1:])
            # An empty line is skipped.
            if line != "":
                yield line, place
            # What stands behind it does not matter.
            yield " ".join(words[:place] + [other, "", "zzz", ""]), place
        # Two blanks, here and at the start.
        yield " ".join(words[:place] + [""] + words[place:]), place
    yield " ".join(words) + " ", len(words)


class LineCase(Case):
    def bad(self, call, lines, line, word):
        """BadLine with this line and word."""
        with self.assertRaises(BadLine, msg=repr(lines)) as caught:
            call(lines)
        self.assertEqual((caught.exception.line, caught.exception.word), (line, word), lines)

    def bad_line(self, call, lines, at, pattern, ends=(), more=None):
        """The line at a place, spoilt in every way; ends tells behind how many words it could
        end as well, more a word that cannot stand behind it."""
        words = [word for word, _ in pattern]
        self.assertEqual(lines[at], " ".join(words))
        for line, place in spoilt(pattern):
            self.bad(call, lines[:at] + [line] + lines[at + 1:], at, place)
            # Lines that are not reached do not matter, nor that there are none.
            self.bad(call, lines[:at] + [line, "zzz zzz", ""], at, place)
            self.bad(call, lines[:at] + ["", line], at + 1, place)
        for many in range(1, len(words)):
            if many not in ends:
                self.bad(call, lines[:at] + [" ".join(words[:many])] + lines[at + 1:], at, many)
        if more is not None:
            for word in (more, ""):
                self.bad(call, lines[:at] + [lines[at] + " " + word] + lines[at + 1:], at, len(words))
