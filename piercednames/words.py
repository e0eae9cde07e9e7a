"""Names, ids and numbers, and the texts of them."""

KEYWORDS = ("let", "set", "out", "read", "do", "def", "if", "else", "repeat", "block")
LIMIT = 1000000
LETTERS = "abcdefghijklmnopqrstuvwxyz"
LONGEST_NAME = 6
LONGEST_NUMERAL = 6


def is_name(value):
    """Whether any value is a name."""
    if not isinstance(value, str) or len(value) > LONGEST_NAME:
        return False
    return value.isascii() and value.isalpha() and value.islower() and value not in KEYWORDS


def is_number(value, least, most):
    """Whether any value is a number from least to most."""
    return is_integer(value) and least <= value <= most


def is_integer(value):
    """Whether any value is a number: True and False are integers of Python, but no numbers."""
    return isinstance(value, int) and not isinstance(value, bool)


def is_id(value):
    """Whether any value is an id."""
    if not isinstance(value, tuple) or len(value) != 2:
        return False
    owner, number = value
    return is_owner(owner) and is_integer(number) and number >= 0


def is_owner(value):
    """Whether any value can stand in front of an id: a name or the empty string."""
    return isinstance(value, str) and (value == "" or is_name(value))


def id_text(thing):
    """The text of an id."""
    owner, number = thing
    return f"{owner}.{number}"


def read_id(text):
    """The id with a text, None for any value that is none."""
    if not isinstance(text, str):
        return None
    owner, _, digits = text.partition(".")
    if not is_owner(owner) or not is_plain_number(digits):
        return None
    return (owner, int(digits))


def read_numeral(text):
    """The value that a numeral says, None for any value that is none."""
    if not isinstance(text, str) or len(text) > LONGEST_NUMERAL or not is_plain_number(text):
        return None
    return int(text)


def is_plain_number(text):
    """Whether a string is a run of digits without leading zeros."""
    return text.isascii() and text.isdigit() and (text == "0" or not text.startswith("0"))


def fresh_names(many, avoid):
    """The list of the first so many names, by length and then by alphabet, that are not in a list."""
    taken = set(avoid)
    found = []
    for length in range(1, 7):
        for index in range(len(LETTERS) ** length):
            if len(found) >= many:
                return found
            word = word_at(length, index)
            if is_name(word) and word not in taken:
                found.append(word)
    return found


def word_at(length, index):
    """The word with an index among all words of a length, in alphabetical order."""
    word = ""
    for _ in range(length):
        index, letter = divmod(index, len(LETTERS))
        word = LETTERS[letter] + word
    return word
