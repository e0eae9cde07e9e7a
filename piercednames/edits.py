"""Edits: their forms, their texts, and what a sketch puts in."""

from piercednames.contents import folded
from piercednames.numbering import Numbering
from piercednames.words import LIMIT, id_text, is_id, is_name, is_number, read_id, read_numeral

MOST_ROWS = 120
MOST_PARAMETERS = 5
SIGNS = ("+", "-", "*", "<")
FIRST = "first"
# The kinds of the items behind the words of edits, and behind those of sketches.
EDITS = {
    "rename": ("id", "name"),
    "put": ("id", "after", "sketch"),
    "drop": ("id",),
    "move": ("id", "id", "after"),
    "turn": ("id", "id"),
    "value": ("id", "value"),
    "lift": ("id", "many", "name"),
    "inline": ("id",),
    "hoist": ("id", "id"),
    "wrap": ("id", "many"),
    "unwrap": ("id",),
}
SKETCHES = {
    "let": ("name", "expression"),
    "set": ("id", "expression"),
    "out": ("expression",),
    "read": ("id",),
    "do": ("id", "arguments"),
    "def": ("name", "parameters"),
    "if": ("expression",),
    "repeat": ("expression",),
    "block": (),
}


def is_edit(value):
    """Whether any value has one of the forms of an edit."""
    if not has_word(value, list(EDITS)):
        return False
    return has_items(value, EDITS[value[0]])


def is_sketch(value):
    """Whether any value has one of the forms of a sketch."""
    if not has_word(value, list(SKETCHES)):
        return False
    return has_items(value, SKETCHES[value[0]])


def has_word(value, words):
    """Whether any value is a tuple that begins with one of some words."""
    return isinstance(value, tuple) and len(value) > 0 and value[0] in words


def has_items(value, kinds):
    """Whether the items of a tuple behind its word are of these kinds."""
    if len(value) != len(kinds) + 1:
        return False
    return all([is_item(kind, item) for kind, item in zip(kinds, value[1:])])


def is_item(kind, value):
    """Whether any value is an item of a kind."""
    if kind == "id":
        return is_id(value)
    if kind == "after":
        return value is None or is_id(value)
    if kind == "name":
        return is_name(value)
    if kind == "value":
        return is_number(value, 0, LIMIT - 1)
    if kind == "many":
        return is_number(value, 1, MOST_ROWS)
    if kind == "expression":
        return is_expression(value)
    if kind == "sketch":
        return is_sketch(value)
    if not isinstance(value, tuple):
        return False
    if kind == "arguments":
        return all([is_expression(item) for item in value])
    return len(value) <= MOST_PARAMETERS and all([is_name(item) for item in value])


def is_expression(value):
    """Whether any value is an expression of a sketch."""
    waiting = [value]
    while waiting:
        part = waiting.pop()
        if isinstance(part, tuple) and len(part) == 3 and part[0] in SIGNS:
            waiting.extend(part[1:])
        elif not is_leaf(part):
            return False
    return True


def is_leaf(value):
    """Whether any value is a value or a use in an expression of a sketch."""
    if isinstance(value, tuple):
        return len(value) == 2 and value[0] == "use" and is_id(value[1])
    return is_number(value, 0, LIMIT - 1)


def edit_text(edit):
    """The text of an edit."""
    word, *items = edit
    texts = [item_text(kind, item) for kind, item in zip(EDITS[word], items)]
    return " ".join([word, *texts])


def item_text(kind, item):
    """The text of an item of an edit."""
    if kind == "after" and item is None:
        return FIRST
    if kind in ("id", "after"):
        return id_text(item)
    if kind == "sketch":
        return sketch_text(item)
    return str(item)


def sketch_text(sketch):
    """The text of a sketch."""
    word, *items = sketch
    if word == "let":
        return f"let {items[0]} = {expression_text(items[1])}"
    if word == "set":
        return f"set {id_text(items[0])} = {expression_text(items[1])}"
    if word == "read":
        return f"read {id_text(items[0])}"
    if word == "do":
        arguments = ", ".join([expression_text(argument) for argument in items[1]])
        return f"do {id_text(items[0])}({arguments})"
    if word == "def":
        parameters = ", ".join(items[1])
        return f"def {items[0]}({parameters})"
    if word == "block":
        return word
    return f"{word} {expression_text(items[0])}"


def expression_text(expression):
    """The text of an expression of a sketch, with each operation in parentheses."""
    return folded(expression, leaf_text, operation_text)


def leaf_text(leaf):
    if isinstance(leaf, tuple):
        return id_text(leaf[1])
    return str(leaf)


def operation_text(sign, left, right):
    return f"({left} {sign} {right})"


def read_edit(text):
    """The edit with a text, None for any value that is none."""
    if not isinstance(text, str):
        return None
    word, _, _ = text.partition(" ")
    if word not in EDITS:
        return None
    kinds = EDITS[word]
    _, *pieces = text.split(" ", len(kinds))
    edit = (word, *[read_item(kind, piece) for kind, piece in zip(kinds, pieces)])
    # What was read loosely has another text, or no form of an edit at all.
    if not is_edit(edit) or edit_text(edit) != text:
        return None
    return edit


def read_item(kind, text):
    """The item of an edit with a text; for other texts None, or an item with another text."""
    if kind in ("id", "after"):
        return read_id(text)
    if kind in ("value", "many"):
        return read_numeral(text)
    if kind == "sketch":
        return read_sketch(text)
    return text


def read_sketch(text):
    """The sketch with a text; for other texts None, or a tuple with another text or form."""
    word, _, rest = text.partition(" ")
    if word == "let":
        name, _, right = rest.partition(" = ")
        return (word, name, read_expression(right))
    if word == "set":
        left, _, right = rest.partition(" = ")
        return (word, read_id(left), read_expression(right))
    if word == "read":
        return (word, read_id(rest))
    if word == "do":
        left, _, right = rest.partition("(")
        return (word, read_id(left), tuple([read_expression(piece) for piece in listed(right)]))
    if word == "def":
        name, _, right = rest.partition("(")
        return (word, name, tuple(listed(right)))
    if word in ("out", "if", "repeat"):
        return (word, read_expression(rest))
    return (word,)


def listed(text):
    """The list of the pieces of a text that ends with a parenthesis, with commas between."""
    return text[:-1].split(", ") if len(text) > 1 else []


def read_expression(text):
    """The expression with a text; for other texts None, or what has another text or form."""
    parts = []
    for token in text.replace("(", "( ").replace(")", " )").split(" "):
        if token == ")" and len(parts) > 3:
            _, left, sign, right = parts[-4:]
            del parts[-4:]
            parts.append((sign, left, right))
        elif token == "(" or token in SIGNS:
            parts.append(token)
        else:
            parts.append(read_leaf(token))
    return parts[0] if len(parts) == 1 else None


def read_leaf(token):
    """The value or use of an expression with a text, None for any other text."""
    thing = read_id(token)
    return read_numeral(token) if thing is None else ("use", thing)


def sketched(sketch, *, person, start):
    """What a sketch puts in: (content, names, meanings, values, the number behind the last id)."""
    # A tree has a root ahead of its rows, which is none of the sketch.
    numbering = Numbering([tree_row(sketch)], person, start - 1)
    _, _, content = numbering.placed[person, start]
    return (content, numbering.declared, numbering.used, numbering.told, numbering.behind)


def tree_row(sketch):
    """The row of a tree for a sketch: its blocks are empty."""
    if sketch[0] == "if":
        return (*sketch, [], [])
    if sketch[0] in ("def", "repeat", "block"):
        return (*sketch, [])
    return sketch
