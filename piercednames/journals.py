"""Deeds of desks, and the journals that tell them."""

from piercednames.edits import edit_text, has_word, read_edit
from piercednames.errors import BadJournal
from piercednames.nets import Net
from piercednames.texts import read_text
from piercednames.words import id_text, is_name, read_id, read_numeral
from piercednames.writing import program_text

# How many items the deeds have, their words among them.
DEEDS = {"base": 2, "draft": 2, "edit": 3, "close": 2, "join": 2, "settle": 3, "accept": 1, "heal": 1, "leave": 1}


def is_deed(value):
    """Whether any value is a tuple with the word of a deed and so many items as this deed has."""
    return has_word(value, list(DEEDS)) and len(value) == DEEDS[value[0]]


def journal_text(deeds):
    """The text of a list of deeds that a desk has done."""
    return "".join([deed_text(deed) for deed in deeds])


def deed_text(deed):
    """The lines of a deed."""
    word, *items = deed
    if word == "base":
        text = program_text(read_text(items[0]))
        many = text.count("\n")
        return f"base {many}\n" + text
    if word == "edit":
        person, edit = items
        return f"edit {person} {edit_text(edit)}\n"
    if word == "settle":
        (kind, thing), person = items
        return f"settle {kind} {id_text(thing)} {person}\n"
    return " ".join([word, *items]) + "\n"


def read_journal(text):
    """The list of the pairs (line, deed) of a journal, with the index of the first line of each deed."""
    pairs, wrong = read_deeds(text)
    if wrong is not None:
        raise BadJournal(wrong)
    return pairs


def read_deeds(text):
    """The pair of the deeds, as read_journal gives them, and the line of the first wrong one or None."""
    if not isinstance(text, str):
        return ([], 0)
    *lines, rest = text.split("\n")
    pairs = []
    at = 0
    while at < len(lines):
        deed, many = read_deed(lines, at)
        if deed is None:
            return (pairs, at)
        pairs.append((at, deed))
        at += many
    return (pairs, None if rest == "" else at)


def read_deed(lines, at):
    """The deed that begins with a line, None if it is not in the form, and how many lines it has."""
    word, _, rest = lines[at].partition(" ")
    if word == "base":
        many = read_numeral(rest)
        if many is None or at + 1 + many > len(lines):
            return (None, 1)
        return (("base", "".join([line + "\n" for line in lines[at + 1:at + 1 + many]])), 1 + many)
    deed = read_line(word, rest)
    # What was read loosely has another text, for example another space behind it.
    if deed is None or deed_text(deed) != lines[at] + "\n":
        return (None, 1)
    return (deed, 1)


def read_line(word, rest):
    """The deed of a line from its first word and what follows, or None; it may have another text."""
    if word in ("accept", "heal", "leave"):
        return (word,)
    if word in ("draft", "close", "join"):
        return (word, rest) if is_name(rest) else None
    person, _, told = rest.partition(" ")
    if word == "edit":
        edit = read_edit(told)
        return (word, person, edit) if is_name(person) and edit is not None else None
    if word == "settle":
        return read_settlement(rest)
    return None


def read_settlement(rest):
    """The deed that settles from what follows its word, or None."""
    words = rest.split(" ")
    if len(words) != 3:
        return None
    kind, told, person = words
    thing = read_id(told)
    if kind not in Net.WORDS or thing is None or not is_name(person):
        return None
    return ("settle", (kind, thing), person)
