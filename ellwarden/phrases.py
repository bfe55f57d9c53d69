"""Taking expressions and statements from lines."""

PARENTHESES = 40
BLOCKS = 40
SUMS = {"+": "plus", "-": "minus"}
PRODUCTS = {"*": "times", "/": "over"}
PLAIN = ("read", "let", "tell", "judge", "leave", "call", "stop")
BLOCK = ("choose", "repeat")


def take_expression(reader, depth=0):
    """An expression in so many parentheses."""
    made = _take_product(reader, depth)
    while reader.peek() in SUMS:
        word = SUMS[reader.take()]
        made = (word, made, _take_product(reader, depth))
    return made


def _take_product(reader, depth):
    """An expression without `+` and `-` outside of parentheses."""
    made = _take_part(reader, depth)
    while reader.peek() in PRODUCTS:
        word = PRODUCTS[reader.take()]
        made = (word, made, _take_part(reader, depth))
    return made


def _take_part(reader, depth):
    """An expression in parentheses, or one without an operator."""
    word = reader.peek()
    if word == "(" and depth < PARENTHESES:
        reader.take()
        made = take_expression(reader, depth + 1)
        reader.take_word(")")
        return made
    if reader.has_ratio():
        number = reader.take_ratio()
        return ("amount", number, reader.take_text())
    if word == "size":
        return (reader.take(), reader.take_name())
    if word == "offset":
        return (reader.take(), reader.take_name(), reader.take_integer())
    return ("name", reader.take_name())


def take_body(reader, depth=0):
    """The statements of a body in so many blocks, up to a line that begins with none."""
    statements = []
    while reader.head() in PLAIN or reader.head() in BLOCK:
        statements.append(_take_statement(reader, depth))
    return tuple(statements)


def _take_statement(reader, depth):
    if reader.peek() in PLAIN:
        statement = _take_plain(reader)
        reader.end_line()
        return statement
    if depth == BLOCKS:
        reader.refuse()
    return _take_choose(reader, depth) if reader.peek() == "choose" else _take_repeat(reader, depth)


def _take_plain(reader):
    """A statement without bodies."""
    word = reader.take()
    if word == "read":
        feature = reader.take_name()
        reader.take_word("by")
        return (word, feature, reader.take_name())
    if word == "let":
        name = reader.take_name()
        reader.take_word("be")
        return (word, name, take_expression(reader))
    if word == "tell":
        label = reader.take_name()
        expression = take_expression(reader)
        reader.take_word("in")
        return (word, label, expression, reader.take_text())
    if word == "judge":
        label = reader.take_name()
        return (word, label, *_take_decision(reader))
    if word == "call":
        return _take_call(reader)
    return (word,)


def _take_decision(reader):
    """An expression with its limits G and N."""
    what = take_expression(reader)
    reader.take_word("good")
    good = take_expression(reader)
    reader.take_word("bad")
    return (what, good, take_expression(reader))


def _take_call(reader):
    name = reader.take_name()
    features = ()
    roles = ()
    if reader.peek() == "takes":
        reader.take()
        features = _take_names(reader)
    if reader.peek() == "uses":
        reader.take()
        roles = _take_names(reader)
    return ("call", name, features, roles)


def _take_names(reader):
    """One or more names, up to the end of the line or to `uses`."""
    names = [reader.take_name()]
    while reader.peek() not in (None, "uses"):
        names.append(reader.take_name())
    return tuple(names)


def _take_choose(reader, depth):
    reader.take()
    decision = _take_decision(reader)
    reader.end_line()
    bodies = []
    for word in ("passed", "failed", "open"):
        body = ()
        if reader.head() == word:
            reader.take()
            reader.end_line()
            body = take_body(reader, depth + 1)
        bodies.append(body)
    take_end(reader)
    return ("choose", *decision, *bodies)


def _take_repeat(reader, depth):
    reader.take()
    turns = reader.take_integer()
    reader.end_line()
    body = take_body(reader, depth + 1)
    take_end(reader)
    return ("repeat", turns, body)


def take_end(reader):
    """The line at the end of a block or a procedure, which is reached."""
    reader.take_word("end")
    reader.end_line()
