import inspect
import unittest

from piercednames import errors
from tests.samples import odd_values

NAMES_ERRORS = """InvalidName(value), InvalidNumber(value), BadText(line, place, why), DuplicateName(name),
Misused(use), OutOfReach(use), Lost(use), Doubled(first, second, block), Caught(use, own, other, block),
InvalidFixed(at), InvalidNaming(declaration), NoSpare(), TooMany(most), InvalidWorth(declaration),
Beyond(first, second), InvalidEdit(at), NotFit(row), NotAbove(block), Ring(row), NoRoom(row),
SamePerson(person), Unrelated(row), Argued(attribute), Unsound(fault), Moved(attribute), NotFull(attribute),
InvalidWay(value), InvalidItem(at), InvalidCells(declaration), SharedCell(first, second), Ended(),
InvalidDeed(at), BadJournal(line), Busy(), NoDraft(person), HasDraft(person), NoMerge()"""
MISSING = "UnknownId(thing), UnknownName(name), UnknownPerson(person), UnknownAttribute(attribute)"
INDEX_ERRORS = "NoNaming(number), NothingLeft()"


def listed(text):
    """The pairs of a class name and its parameters that a list like the ones above tells."""
    found = []
    for part in text.replace("\n", " ").split("), "):
        name, _, parameters = part.rstrip(")").partition("(")
        found.append((name.strip(), [word for word in parameters.split(", ") if word]))
    return found


def all_listed():
    rows = [(name, parameters, errors.NamesError) for name, parameters in listed(NAMES_ERRORS)]
    rows += [(name, parameters, errors.Missing) for name, parameters in listed(MISSING)]
    return rows + [(name, parameters, IndexError) for name, parameters in listed(INDEX_ERRORS)]


class ErrorsTest(unittest.TestCase):
    def test_all_are_there_and_no_more(self):
        found = {name for name, value in vars(errors).items() if inspect.isclass(value)}
        self.assertEqual(found, {name for name, _, _ in all_listed()} | {"NamesError", "Missing"})
        self.assertEqual(len(all_listed()), 43)

    def test_direct_bases(self):
        self.assertEqual(errors.NamesError.__bases__, (ValueError,))
        self.assertEqual(errors.Missing.__bases__, (LookupError,))
        for name, _, base in all_listed():
            self.assertEqual(getattr(errors, name).__bases__, (base,), name)

    def test_none_is_a_subclass_of_another_one(self):
        classes = [getattr(errors, name) for name, _, _ in all_listed()]
        for one in classes:
            for other in classes:
                self.assertEqual(issubclass(one, other), one is other)

    def test_attributes_by_place_and_by_name(self):
        values = odd_values()
        for name, parameters, _ in all_listed():
            for start in range(len(values)):
                given = [values[(start + k) % len(values)] for k in range(len(parameters))]
                by_name = dict(zip(parameters, given))
                for error in (getattr(errors, name)(*given), getattr(errors, name)(**by_name)):
                    self.assertEqual(error.code, name)
                    for parameter in parameters:
                        self.assertIs(getattr(error, parameter), by_name[parameter])

    def test_parameters_are_needed(self):
        for name, parameters, _ in all_listed():
            with self.assertRaises(TypeError):
                getattr(errors, name)(*range(len(parameters) + 1))
            if parameters:
                with self.assertRaises(TypeError):
                    getattr(errors, name)()

    def test_the_two_base_classes_have_no_code(self):
        self.assertFalse(hasattr(errors.NamesError(), "code"))
        self.assertFalse(hasattr(errors.Missing(), "code"))

    def test_they_can_be_raised_and_caught(self):
        with self.assertRaises(ValueError) as caught:
            raise errors.BadText(1, 2, "form")
        self.assertEqual((caught.exception.line, caught.exception.place, caught.exception.why), (1, 2, "form"))
        with self.assertRaises(LookupError):
            raise errors.UnknownId([1])
        with self.assertRaises(IndexError):
            raise errors.NothingLeft()


if __name__ == "__main__":
    unittest.main()
