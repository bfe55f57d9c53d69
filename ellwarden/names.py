"""The words of the language, and what a name is."""

WORDS = (
    "days", "base", "unit", "device", "feature", "role", "job", "procedure", "takes", "uses",
    "read", "by", "let", "be", "tell", "in", "judge", "good", "bad", "choose", "passed", "failed",
    "open", "repeat", "leave", "call", "stop", "end", "size", "offset", "news", "cert", "stand",
    "jolt", "edition", "strike", "told", "within", "sum", "product", "quotient", "card", "spot",
    "row", "ground", "nobody",
)
LETTERS = "abcdefghijklmnopqrstuvwxyz"
LONGEST = 12


def is_name(thing):
    """Whether it has 1 to 12 letters from a to z and is no word of the language."""
    if not isinstance(thing, str) or not 1 <= len(thing) <= LONGEST:
        return False
    return all([letter in LETTERS for letter in thing]) and thing not in WORDS
