"""The written texts of programs."""

from piercednames.contents import STRENGTHS, folded
from piercednames.words import id_text

INDENT = "  "
ID_COLUMNS = 10
# A leaf is never in parentheses, as if it bound more tightly than each sign.
LEAF_STRENGTH = 4


def program_text(program):
    """The written text of a program."""
    return "".join([line + "\n" for _, line in written_lines(program)])


def listing(program):
    """A generator of the lines of the written text, each behind the text of the id of its row."""
    for row, line in written_lines(program):
        label = "" if row is None else id_text(row)
        yield label.rjust(ID_COLUMNS) + " " + line


def expression_text(program, expression):
    """An expression of a program as it stands in the written text, without parentheses around."""
    text, _ = folded(expression, lambda leaf: (leaf_text(program, leaf), LEAF_STRENGTH), joined_text)
    return text


def leaf_text(program, leaf):
    word, thing = leaf
    if word == "use":
        return used_name(program, thing)
    return str(program.value_of(thing))


def joined_text(sign, left, right):
    """The pair of the text of an operation and its strength, from such pairs of its operands."""
    strength = STRENGTHS[sign]
    text = f"{operand_text(left, strength)} {sign} {operand_text(right, strength + 1)}"
    return (text, strength)


def operand_text(operand, least):
    """The text of an operand, in parentheses if it binds less tightly than the least strength."""
    text, strength = operand
    return text if strength >= least else "(" + text + ")"


def used_name(program, use):
    return program.name_of(program.meaning(use))


def written_lines(program):
    """The list of a pair of a row, None for a line that begins with an end of a block, and a line."""
    lines = []
    # A stack in place of recursion, for a text may nest more blocks than calls can be nested.
    waiting = [(row, "") for row in reversed(program.rows_of(program.root))]
    while waiting:
        row, line = waiting.pop()
        if line != "":
            lines.append((None, line))
            continue
        indent = INDENT * program.depth(program.block_of(row))
        lines.append((row, indent + head_text(program, program.content(row))))
        waiting.extend(steps_within(program, program.content(row), indent)[::-1])
    return lines


def steps_within(program, content, indent):
    """What stands behind the first line of a row: pairs (row, "") and (None, line)."""
    word = content[0]
    if word == "if":
        steps = rows_within(program, content[2])
        second = rows_within(program, content[3])
        if second:
            steps = [*steps, (None, indent + "} else {"), *second]
    elif word in ("def", "repeat", "block"):
        steps = rows_within(program, content[-1])
    else:
        return []
    return [*steps, (None, indent + "}")]


def rows_within(program, block):
    return [(row, "") for row in program.rows_of(block)]


def head_text(program, content):
    """The first line of a row, without spaces ahead."""
    word = content[0]
    if word == "let":
        return f"let {program.name_of(content[1])} = {expression_text(program, content[2])}"
    if word == "set":
        return f"set {used_name(program, content[1])} = {expression_text(program, content[2])}"
    if word == "read":
        return f"read {used_name(program, content[1])}"
    if word == "out":
        return f"out {expression_text(program, content[1])}"
    if word == "do":
        arguments = ", ".join([expression_text(program, argument) for argument in content[2]])
        return f"do {used_name(program, content[1])}({arguments})"
    if word == "def":
        parameters = ", ".join([program.name_of(parameter) for parameter in content[2]])
        return f"def {program.name_of(content[1])}({parameters})" + " {"
    if word == "block":
        return "block {"
    return f"{word} {expression_text(program, content[1])}" + " {"
