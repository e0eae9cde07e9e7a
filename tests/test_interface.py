"""The names, parameters and places of the interface."""

import importlib
import inspect
import unittest

FUNCTIONS = {
    "words": [
        "is_name(value)", "is_id(value)", "is_number(value, least, most)", "id_text(thing)", "read_id(text)",
        "read_numeral(text)", "fresh_names(many, avoid)",
    ],
    "positions": [
        "lowest(over, under)", "middle(one, other)", "is_below(one, other)", "position_behind(one, other)",
        "ordered(pairs)",
    ],
    "contents": [
        "things_of(content)", "blocks_of(content)", "declared_by(content)", "expressions_of(content)",
        "expression_uses(expression)", "copied(content, ids)",
    ],
    "programs": ["alike(one, other)"],
    "making": ["make(tree, *, names=None, owner='')"],
    "tokens": ["tokens_of(line)"],
    "texts": ["read_text(text, *, owner='')", "scan_text(text, *, seen=None)"],
    "writing": ["program_text(program)", "expression_text(program, expression)", "listing(program)"],
    "meaning": [
        "found(program, use)", "faults(program)", "is_right(program)", "check_right(program)", "check_single(program)",
    ],
    "namings": [
        "fewest_names(table)", "count_namings(table, names, *, fixed=())", "naming_order(table, *, fixed=())",
        "nth_naming(table, names, number, *, fixed=())", "number_of(table, names, naming, *, fixed=())",
        "some_namings(table, names, *, start=0, many=20, fixed=())", "is_apart(table, naming)",
    ],
    "ways": ["way(table, names, naming, other)"],
    "heals": ["heal(table, *, worths=None, held=(), avoid=())"],
    "parting": ["parting(program, *, by='callers', cells=None)", "fewest_cells(program)", "deal_cells(program)"],
    "edits": ["is_edit(value)", "edit_text(edit)", "read_edit(text)", "sketched(sketch, *, person, start)"],
    "steps": [
        "first_number(program, person)", "lift(program, row, many, name, *, person, start)",
        "inline(program, row, *, person, start)", "hoist(program, row, block)",
        "wrap(program, row, many, *, person, start)", "unwrap(program, row)",
    ],
    "drafts": ["edited(program, edit, *, person, start)"],
    "joining": ["structure_faults(program, net)", "joined(program, net)", "net_back(program, net, person)"],
    "choices": [
        "needs(net, attribute)", "fill(net, choice)", "first_fault(program, net, choice)", "least_wrong(program, net)",
        "all_right(program, net)",
    ],
    "changes": [
        "changes(stack, other)", "noticed(stack, other, client)", "witness(stack, other)", "exposed(stack)",
        "exposing(stack, name)",
    ],
    "journals": ["journal_text(deeds)", "read_journal(text)"],
}
METHODS = {
    ("programs", "Program"): [
        "__init__(self, root, rows, names, meanings, values)", "state(self)", "things(self)", "blocks(self)",
        "rows(self)", "declarations(self)", "uses(self)", "numerals(self)", "kind_of(self, thing)",
        "rows_of(self, block)", "content(self, row)", "position(self, row)", "block_of(self, thing)",
        "row_of(self, thing)", "parent(self, block)", "path(self, block)", "depth(self, block)",
        "name_of(self, declaration)", "meaning(self, use)", "value_of(self, numeral)", "uses_of(self, declaration)",
        "parameters(self, declaration)", "body(self, declaration)", "names(self)", "renamed(self, names)",
        "respaced(self)", "fits(self, use, declaration)", "reaches(self, block, declaration)", "__eq__(self, other)",
        "__len__(self)", "__repr__(self)",
    ],
    ("stretches", "Stretch"): [
        "__init__(self, declaration, top, blocks)", "blocks(self)", "__contains__(self, block)", "__and__(self, other)",
        "meets(self, other)", "__eq__(self, other)", "__len__(self)", "__repr__(self)",
    ],
    ("stretches", "Table"): [
        "__init__(self, program)", "declarations(self)", "top_order(self)", "stretch(self, declaration)",
        "meets(self, one, other)", "ahead(self, declaration)", "crowd(self, block)", "common(self, declarations)",
        "unlike(self, declarations)", "meeting(self)", "clashing(self)", "greatest_crowd(self)", "__len__(self)",
        "__repr__(self)",
    ],
    ("carried", "WideTable"): [
        "__init__(self, program)", "alive_blocks(self)", "region(self, block)", "wants(self, declaration)",
        "reason(self, declaration, block)", "__repr__(self)",
    ],
    ("heals", "Plan"): [
        "kept(self)", "renames(self)", "barred(self)", "weights(self, name)", "always_kept(self)", "never_kept(self)",
        "result(self)", "__repr__(self)",
    ],
    ("runs", "Run"): [
        "__init__(self, program, *, by='text', inputs=(), choices=None, cells=None)", "outputs(self)", "notes(self)",
        "untrue(self)", "left(self)", "frames(self)", "cells(self)", "step(self)", "run(self, most=300)", "twin(self)",
        "__repr__(self)",
    ],
    ("nets", "Net"): [
        "none()", "between(base, result, person)", "people(self)", "attributes(self)", "versions(self, attribute)",
        "worth_of(self, attribute)", "argued(self)", "chosen(self, attributes)", "settled(self, attribute, person)",
        "__add__(self, other)", "__contains__(self, attribute)", "__eq__(self, other)", "__len__(self)", "__repr__(self)",
    ],
    ("drafts", "Draft"): [
        "__init__(self, program, person)", "edit(self, *edits)", "undo(self)", "edits(self)", "result(self)", "net(self)",
        "twin(self)", "__len__(self)", "__repr__(self)",
    ],
    ("merges", "Merge"): [
        "__init__(self, base, *nets)", "add_net(self, net)", "settle(self, attribute, person)", "unsettle(self, attribute)",
        "settled(self)", "whole_net(self)", "net(self)", "people(self)", "argued(self)", "faults(self)", "result(self)",
        "name_faults(self)", "is_right(self)", "heal(self, *, worths=None, held=(), avoid=())", "twin(self)",
        "__repr__(self)",
    ],
    ("libraries", "Library"): [
        "__init__(self, name, program)", "exports(self)", "edition(self, net)", "__eq__(self, other)", "__len__(self)",
        "__repr__(self)",
    ],
    ("libraries", "Stack"): [
        "__init__(self, *libraries)", "libraries(self)", "sees(self, name)", "seen(self)", "meanings(self, client)",
        "stacked_text(self, client)", "stacked(self, client)", "__add__(self, library)", "__contains__(self, name)",
        "__eq__(self, other)", "__len__(self)", "__repr__(self)",
    ],
    ("desk", "Desk"): [
        "__init__(self)", "do(self, *deeds)", "undo(self)", "redo(self)", "history(self)", "change_steps(self, value)",
        "people(self)", "draft(self, person)", "held_merge(self)", "journal(self)", "__str__(self)", "replay(text)",
        "tried(self, *deeds)", "ask(self, line)", "__call__(self, line)", "log(self)", "twin(self)", "__eq__(self, other)",
        "__len__(self)", "__repr__(self)",
    ],
}
STATIC = {("nets", "Net"): ["none", "between"], ("desk", "Desk"): ["replay"]}
PROPERTIES = {
    ("runs", "Run"): ["ended", "step_count"],
    ("drafts", "Draft"): ["base", "next_number"],
    ("merges", "Merge"): ["base"],
    ("desk", "Desk"): ["base", "steps"],
}


class InterfaceTest(unittest.TestCase):
    def test_functions(self):
        for file, listed in FUNCTIONS.items():
            module = importlib.import_module("piercednames." + file)
            for text in listed:
                function = getattr(module, text.partition("(")[0])
                self.assertEqual(function.__name__ + str(inspect.signature(function)), text)
                self.assertEqual(function.__module__, "piercednames." + file)

    def test_methods(self):
        for (file, name), listed in METHODS.items():
            kind = getattr(importlib.import_module("piercednames." + file), name)
            self.assertEqual(kind.__module__, "piercednames." + file)
            for text in listed:
                word = text.partition("(")[0]
                self.assertEqual(isinstance(vars(kind)[word], staticmethod), word in STATIC.get((file, name), []))
                method = getattr(kind, word)
                self.assertIn(word, vars(kind))
                self.assertEqual(method.__name__ + str(inspect.signature(method)), text)

    def test_properties(self):
        for (file, name), listed in PROPERTIES.items():
            kind = getattr(importlib.import_module("piercednames." + file), name)
            for word in listed:
                self.assertIsInstance(vars(kind)[word], property)


if __name__ == "__main__":
    unittest.main()
