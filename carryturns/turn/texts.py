"""The texts of turn numbers, like 1+2z-z^3; nothing is checked here."""

DIGITS = "0123456789"
MAX_DIGITS = 60
PART = 10 ** 60


def number_text(number):
    """The digits of an integer of at least 0, however many there are."""
    parts = []
    # Python itself tells no integer of more than 4300 digits.
    while number >= PART:
        number, low = divmod(number, PART)
        parts.append(str(low).zfill(MAX_DIGITS))
    return str(number) + "".join(parts[::-1])


def term_text(at, entry, is_first):
    """The text of an entry other than 0, with its power of z."""
    sign = "-" if entry < 0 else "" if is_first else "+"
    if at == 0:
        return f"{sign}{number_text(abs(entry))}"
    factor = "" if abs(entry) == 1 else number_text(abs(entry))
    exponent = "" if at == 1 else f"^{at}"
    return f"{sign}{factor}z{exponent}"


def entries_text(entries):
    """The text of entries, without their order."""
    terms = []
    for at, entry in enumerate(entries):
        if entry != 0:
            terms.append(term_text(at, entry, len(terms) == 0))
    if len(terms) == 0:
        return "0"
    return "".join(terms)


def number_in(text):
    """The integer of at least 0 that a text of one to sixty digits tells, or None."""
    if not 1 <= len(text) <= MAX_DIGITS or not all([sign in DIGITS for sign in text]):
        return None
    return int(text)


def term_in(text):
    """The pair of the power and of the entry that the text of a term tells, or None."""
    sign = -1 if text.startswith("-") else 1
    factor, root, exponent = text.removeprefix("-").partition("z")
    if root == "":
        at = 0
    elif exponent == "":
        at = 1
    else:
        at = number_in(exponent.removeprefix("^"))
    entry = 1 if root == "z" and factor == "" else number_in(factor)
    if at is None or entry is None:
        return None
    return at, sign * entry


def entries_in(text, width):
    """The tuple of the entries that a text of terms tells, so many, or None.

    It reads more than it should: whether the text is the one of the entries, is left to be seen.
    """
    entries = [0] * width
    for word in text.replace("-", "+-").split("+"):
        if word != "":
            term = term_in(word)
            if term is None or term[0] >= width:
                return None
            entries[term[0]] = term[1]
    return tuple(entries)
