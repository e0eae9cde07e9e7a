"""The contents of rows, and the expressions in them.

Expressions are taken apart into their parts in place of recursion: a long sum is as deep as it
is long. The leaves may have any form: an id in a pair, as a program has it, or a name or a value.
Ids are told by their places alone, for ("use", 3) is both an id and like an expression.
"""

STRENGTHS = {"*": 3, "+": 2, "-": 2, "<": 1}


def things_of(content):
    """The pairs of a word and an id, in reading order, of the things of a content."""
    if content[0] == "def":
        return definition_things(content)
    things = []
    if content[0] == "let":
        things.append(("declaration", content[1]))
    if content[0] in ("set", "read", "do"):
        things.append(("use", content[1]))
    for expression in expressions_of(content):
        things.extend(leaves_of(expression))
    things.extend([("block", block) for block in blocks_of(content)])
    return things


def definition_things(content):
    _, declaration, parameters, block = content
    things = [("declaration", declaration), ("block", block)]
    return things + [("declaration", parameter) for parameter in parameters]


def blocks_of(content):
    """The list of the blocks of a content."""
    if content[0] == "if":
        return [content[2], content[3]]
    if content[0] == "def":
        return [content[3]]
    if content[0] == "repeat":
        return [content[2]]
    if content[0] == "block":
        return [content[1]]
    return []


def declared_by(content):
    """The list of the declarations of a content."""
    if content[0] == "let":
        return [content[1]]
    if content[0] == "def":
        return [content[1], *content[2]]
    return []


def expressions_of(content):
    """The list of the expressions of a content."""
    if content[0] in ("let", "set"):
        return [content[2]]
    if content[0] in ("out", "if", "repeat"):
        return [content[1]]
    if content[0] == "do":
        return list(content[2])
    return []


def expression_uses(expression):
    """The list of the uses of an expression."""
    return [thing for word, thing in leaves_of(expression) if word == "use"]


def leaves_of(expression):
    """The list of the numerals and uses of an expression, as pairs of a word and an id."""
    return [part for part in parts_of(expression) if part not in STRENGTHS]


def parts_of(expression):
    """The leaves of an expression from the left, and each sign behind the parts of its operands."""
    parts = []
    waiting = [expression]
    while waiting:
        part = waiting.pop()
        if isinstance(part, tuple) and part[0] in STRENGTHS:
            sign, left, right = part
            waiting.extend([sign, right, left])
        else:
            parts.append(part)
    return parts


def folded(expression, at_leaf, at_sign):
    """What becomes of an expression by a function of a leaf and one of a sign and two results."""
    done = []
    for part in parts_of(expression):
        if part in STRENGTHS:
            right = done.pop()
            left = done.pop()
            done.append(at_sign(part, left, right))
        else:
            done.append(at_leaf(part))
    return done[0]


def flat_content(content):
    """What tells a content from all others, without tuples as deep as its expressions."""
    parts = [parts_of(expression) for expression in expressions_of(content)]
    return (content[0], things_of(content), parts)


def copied(content, ids):
    """The content with each id of a dict replaced by its new one."""
    word = content[0]
    if word in ("let", "set"):
        return (word, new_id(content[1], ids), copied_expression(content[2], ids))
    if word in ("read", "block"):
        return (word, new_id(content[1], ids))
    if word == "def":
        parameters = tuple([new_id(parameter, ids) for parameter in content[2]])
        return (word, new_id(content[1], ids), parameters, new_id(content[3], ids))
    if word == "do":
        arguments = tuple([copied_expression(argument, ids) for argument in content[2]])
        return (word, new_id(content[1], ids), arguments)
    # What is left begins with an expression: out, if, repeat.
    blocks = [new_id(block, ids) for block in blocks_of(content)]
    return (word, copied_expression(content[1], ids), *blocks)


def copied_expression(expression, ids):
    """An expression with each id of a dict replaced by its new one."""
    return folded(
        expression,
        lambda leaf: (leaf[0], new_id(leaf[1], ids)),
        lambda sign, left, right: (sign, left, right),
    )


def new_id(thing, ids):
    return ids.get(thing, thing)
