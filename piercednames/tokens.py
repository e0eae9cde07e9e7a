"""The tokens of a line."""

from piercednames.words import LETTERS, LONGEST_NAME, read_numeral

SIGNS = "=+-*<(),{}"
DIGITS = "0123456789"


def tokens_of(line):
    """The list of the tuples (place, kind, text) of the tokens of a line, from the left.

    It ends with the kind "end", or with a kind that begins with "bad" at the first wrong token.
    """
    tokens = []
    place = 0
    while place < len(line):
        if line[place] == " ":
            place += 1
            continue
        kind, text = token_at(line, place)
        tokens.append((place, kind, text))
        if text == "":
            return tokens
        place += len(text)
    tokens.append((len(line), "end", ""))
    return tokens


def token_at(line, place):
    """The pair (kind, text) of the token that begins at a place of a line."""
    if line[place] in SIGNS:
        return ("sign", line[place])
    if line[place] in LETTERS:
        word = longest_run(line, place, LETTERS)
        return ("word", word) if len(word) <= LONGEST_NAME else ("bad word", "")
    if line[place] in DIGITS:
        digits = longest_run(line, place, DIGITS)
        return ("number", digits) if read_numeral(digits) is not None else ("bad number", "")
    return ("bad sign", "")


def longest_run(line, place, characters):
    """The longest piece of a line from a place on that has only these characters."""
    end = place
    while end < len(line) and line[end] in characters:
        end += 1
    return line[place:end]
