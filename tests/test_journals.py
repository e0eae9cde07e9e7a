import random
import unittest

from piercednames.edits import edit_text
from piercednames.errors import BadJournal
from piercednames.journals import journal_text, read_journal
from piercednames.nets import Net
from piercednames.words import is_name
from tests.samples import odd_values
from tests.test_edits import EDITS, random_edit

TEXT = "let x=1\n\nblock{\nout   x\n}"
WRITTEN = "let x = 1\nblock {\n  out x\n}\n"
DEEDS = [
    (("base", TEXT), "base 4\n" + WRITTEN), (("base", ""), "base 0\n"), (("base", "\n  \n"), "base 0\n"),
    (("draft", "ann"), "draft ann\n"), (("draft", "first"), "draft first\n"), (("close", "bob"), "close bob\n"),
    (("join", "cid"), "join cid\n"), (("accept",), "accept\n"), (("heal",), "heal\n"), (("leave",), "leave\n"),
    (("edit", "ann", ("rename", ("", 2), "y")), "edit ann rename .2 y\n"),
    (("edit", "ann", ("put", ("", 0), None, ("let", "x", ("+", ("use", ("", 3)), 5)))), "edit ann put .0 first let x = (.3 + 5)\n"),
    (("settle", ("name", ("ann", 3)), "bob"), "settle name ann.3 bob\n"),
] + [(("settle", (word, ("", 12)), "ann"), f"settle {word} .12 ann\n") for word in Net.WORDS]


class WritingTest(unittest.TestCase):
    def test_all_deeds(self):
        for deed, text in DEEDS:
            self.assertEqual(journal_text([deed]), text)
            self.assertEqual(journal_text((deed, deed)), text * 2)
        self.assertEqual(journal_text([]), "")
        self.assertEqual(journal_text([deed for deed, _ in DEEDS]), "".join(text for _, text in DEEDS))

    def test_all_edits(self):
        for edit, text in EDITS.items():
            self.assertEqual(journal_text([("edit", "ann", edit)]), f"edit ann {text}\n")


class ReadingTest(unittest.TestCase):
    def test_all_deeds(self):
        for deed, text in DEEDS:
            wanted = ("base", text.split("\n", 1)[1]) if deed[0] == "base" else deed
            self.assertEqual(read_journal(text), [(0, wanted)])
        self.assertEqual(read_journal(""), [])

    def test_the_lines_of_deeds(self):
        text = "draft ann\nbase 2\nout 1\nout 2\naccept\nbase 0\nbase 1\nbase 0\nheal\n"
        self.assertEqual(read_journal(text), [
            (0, ("draft", "ann")), (1, ("base", "out 1\nout 2\n")), (4, ("accept",)), (5, ("base", "")), (6, ("base", "base 0\n")),
            (8, ("heal",)),
        ])

    def test_lines_of_a_base_may_be_any(self):
        for lines in (["no text"], ["", ""], ["  out 1 "], ["draft ann"], ["}"], ["base 7", "accept"]):
            text = f"base {len(lines)}\n" + "".join(line + "\n" for line in lines)
            self.assertEqual(read_journal(text + "leave\n")[0], (0, ("base", "".join(line + "\n" for line in lines))))

    def test_random_journals(self):
        source = random.Random(5)
        for _ in range(60):
            deeds = [source.choice(DEEDS)[0] for _ in range(source.randint(0, 6))]
            deeds += [("edit", "bob", random_edit(source)) for _ in range(3)]
            source.shuffle(deeds)
            text = journal_text(deeds)
            read = read_journal(text)
            self.assertEqual(journal_text([deed for _, deed in read]), text)
            self.assertEqual([line for line, _ in read], [journal_text(deeds[:k]).count("\n") for k in range(len(deeds))])
            for (_, deed), own in zip(read, deeds, strict=True):
                self.assertEqual(deed[:1] if own[0] == "base" else deed, own[:1] if own[0] == "base" else own)

    def test_lists_are_new(self):
        text = "draft ann\n"
        read_journal(text).clear()
        self.assertEqual(read_journal(text), [(0, ("draft", "ann"))])


class BadTest(unittest.TestCase):
    def bad(self, text, line):
        with self.assertRaises(BadJournal) as caught:
            read_journal(text)
        self.assertEqual(caught.exception.line, line, text)

    def test_values_that_are_no_strings(self):
        for value in odd_values():
            if not isinstance(value, str):
                self.bad(value, 0)

    def test_lines_that_are_bent(self):
        good = [text for deed, text in DEEDS if deed[0] != "base"]
        bent = ["\n", " \n", "x\n", "Draft ann\n", "undo\n", "names\n", "steps 3\n", "base\n", "draft\n", "edit\n", "settle\n", "edit ann\n"]
        bent += [f"draft {value}\n" for value in ("Ann", "let", "seventh", "a1", "", "ann bob", ".2")]
        bent += ["edit ann base 0\n", "edit ann rename .02 x\n", "edit ann rename .2 let\n", "edit let rename .2 x\n", "edit rename .2 x\n"]
        bent += ["settle name .2\n", "settle names .2 ann\n", "settle name 2 ann\n", "settle name .02 ann\n", "settle name .2 let\n"]
        bent += ["settle name .2 ann bob\n", "settle (name, .2) ann\n", "settle .2 name ann\n", "accept ann\n", "base 0 0\n"]
        for text in good:
            line = text[:-1]
            bent += [" " + text, line + " \n", line.replace(" ", "  ", 1) + "x\n" if " " in line else line + "x\n", text.upper(), line[1:] + "\n"]
            bent += [line.replace(" ", "  ") + "\n"] if " " in line else []
        for text in bent:
            self.bad(text, 0)
            self.bad("draft ann\nbase 1\nout 1\n" + text + "nothing\n", 3)

    def test_counts(self):
        self.bad("base 1\n", 0)
        self.bad("draft ann\nbase 3\nout 1\nout 2\n", 1)
        for count in ("01", "00", "1000000", "-1", "+1", "", " 1", "1 ", "x", "1.0", "0x1"):
            self.bad(f"base {count}\nout 1\n", 0)
        self.bad("base 999999\nout 1\n", 0)
        self.bad("base 0\nout 1\n", 1)
        self.bad("base 1\nout 1\nout 2\n", 2)

    def test_characters_behind_the_last_line_feed(self):
        self.bad("accept", 0)
        self.bad("accept\nleave", 1)
        self.bad("accept\n ", 1)
        self.bad("base 1\nout 1", 0)
        self.bad("base 1\nout 1\nout 2", 2)
        self.bad("base 2\nout 1\nout 2", 0)
        self.bad("base 0", 0)
        # The first wrong deed counts.
        self.bad("accept\nno\nleave", 1)

    def test_one_character_more_or_less(self):
        for deed, text in DEEDS[3:]:
            for at in range(len(text)):
                for other in (text[:at] + " " + text[at:], text[:at] + text[at + 1:]):
                    try:
                        read = read_journal(other)
                    except BadJournal as error:
                        self.assertEqual(error.line, 0)
                    else:
                        self.assertEqual(journal_text([deed for _, deed in read]), other)
                        self.assertNotEqual([deed for _, deed in read], [deed])

    def test_people_are_names(self):
        for value in odd_values():
            if isinstance(value, str) and "\n" not in value:
                self.assertFalse(is_name(value))
                for word in ("draft", "close", "join"):
                    self.bad(f"{word} {value}\n", 0)
                self.bad(f"edit {value} drop .2\n", 0)
                self.bad(f"settle name .2 {value}\n", 0)

    def test_edits_of_a_journal(self):
        edit = ("put", ("", 0), None, ("out", ("*", 1, ("-", 2, 3))))
        self.assertEqual(read_journal(f"edit ann {edit_text(edit)}\n"), [(0, ("edit", "ann", edit))])
        self.bad("edit ann put .0 first out 1 * (2 - 3)\n", 0)


if __name__ == "__main__":
    unittest.main()
