"""What a desk answers to lines that change nothing."""

from piercednames.carried import WideTable
from piercednames.meaning import faults
from piercednames.namings import count_namings, fewest_names
from piercednames.parting import fewest_cells
from piercednames.runs import Run
from piercednames.stretches import Table
from piercednames.words import LETTERS, read_numeral

UNKNOWN = "unknown"


def answer(situation, line, most):
    """The answer to a line about the Situation of a desk; most is how many steps a run does at most."""
    word, *rest = line.split(" ")
    if word == "count" and len(rest) == 1:
        return answer_count(situation, read_numeral(rest[0]))
    if word == "out":
        return answer_out(situation, [read_numeral(told) for told in rest], most)
    if word in ANSWERS and not rest:
        told = ANSWERS[word]
        return told(situation)
    return UNKNOWN


def answer_count(situation, many):
    if many is None or many < 1 or many > len(LETTERS):
        return UNKNOWN
    return str(count_namings(Table(situation.ground), list(LETTERS[:many])))


def answer_out(situation, inputs, most):
    if None in inputs:
        return UNKNOWN
    run = Run(situation.ground, by="meaning", inputs=inputs)
    run.run(most)
    return listed(run.outputs(), "nothing")


def answer_names(situation):
    return str(fewest_names(Table(situation.ground)))


def answer_faults(situation):
    return str(len(faults(situation.ground)))


def answer_alike(situation):
    return "no" if WideTable(situation.ground).clashing() else "yes"


def answer_cells(situation):
    return str(fewest_cells(situation.ground))


def answer_drafts(situation):
    return listed(sorted(situation.drafts), "none")


def answer_argued(situation):
    return str(len(situation.held().argued()))


def answer_right(situation):
    return "yes" if situation.held().is_right() else "no"


def listed(items, nothing):
    """Some items with spaces between, or a word if there are none."""
    return " ".join([str(item) for item in items]) if items else nothing


ANSWERS = {
    "names": answer_names,
    "faults": answer_faults,
    "alike": answer_alike,
    "cells": answer_cells,
    "drafts": answer_drafts,
    "argued": answer_argued,
    "right": answer_right,
}
