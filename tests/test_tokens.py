import random
import unittest

from piercednames.tokens import tokens_of


class TokensTest(unittest.TestCase):
    def test_lines(self):
        table = {
            "": [(0, "end", "")],
            "   ": [(3, "end", "")],
            "let x = 1": [(0, "word", "let"), (4, "word", "x"), (6, "sign", "="), (8, "number", "1"), (9, "end", "")],
            "  out  a ": [(2, "word", "out"), (7, "word", "a"), (9, "end", "")],
            "a1b2": [(0, "word", "a"), (1, "number", "1"), (2, "word", "b"), (3, "number", "2"), (4, "end", "")],
            "do f(a,0){": [
                (0, "word", "do"), (3, "word", "f"), (4, "sign", "("), (5, "word", "a"), (6, "sign", ","),
                (7, "number", "0"), (8, "sign", ")"), (9, "sign", "{"), (10, "end", ""),
            ],
            "==": [(0, "sign", "="), (1, "sign", "="), (2, "end", "")],
            "abcdef 999999": [(0, "word", "abcdef"), (7, "number", "999999"), (13, "end", "")],
        }
        for line, tokens in table.items():
            self.assertEqual(tokens_of(line), tokens)

    def test_all_signs(self):
        signs = "=+-*<(),{}"
        self.assertEqual(tokens_of(signs), [(k, "sign", signs[k]) for k in range(10)] + [(10, "end", "")])

    def test_bad_signs(self):
        good = " abcdefghijklmnopqrstuvwxyz0123456789=+-*<(),{}"
        for code in range(ord(" "), ord("~") + 1):
            if chr(code) not in good:
                self.assertEqual(tokens_of("a " + chr(code) + " b"), [(0, "word", "a"), (2, "bad sign", "")])
        self.assertEqual(tokens_of("A"), [(0, "bad sign", "")])
        self.assertEqual(tokens_of("ab_c"), [(0, "word", "ab"), (2, "bad sign", "")])

    def test_bad_numbers(self):
        for digits in ("00", "01", "007", "1000000", "0000001", "12345678901234567890"):
            self.assertEqual(tokens_of("x " + digits + " $"), [(0, "word", "x"), (2, "bad number", "")])
        self.assertEqual(tokens_of("0 10 100000")[:3], [(0, "number", "0"), (2, "number", "10"), (5, "number", "100000")])

    def test_bad_words(self):
        for word in ("abcdefg", "repeats", "z" * 50):
            self.assertEqual(tokens_of("1 " + word + " 00"), [(0, "number", "1"), (2, "bad word", "")])

    def test_the_first_fault_ends_the_list(self):
        self.assertEqual(tokens_of("abcdefg 00 $"), [(0, "bad word", "")])
        self.assertEqual(tokens_of("00 abcdefg $"), [(0, "bad number", "")])
        self.assertEqual(tokens_of("$ 00 abcdefg"), [(0, "bad sign", "")])

    def test_returned_lists_are_new(self):
        tokens_of("a").clear()
        self.assertEqual(len(tokens_of(line="a")), 2)

    def test_tokens_stand_at_their_places(self):
        source = random.Random(4)
        for _ in range(300):
            line = "".join(source.choice("ab z109 =+-*<(),{} ") for _ in range(source.randint(0, 20)))
            tokens = tokens_of(line)
            rest = list(line)
            for place, kind, text in tokens[:-1]:
                self.assertEqual(line[place:place + len(text)], text)
                rest[place:place + len(text)] = " " * len(text)
            if tokens[-1][1] == "end":
                self.assertEqual("".join(rest).strip(), "")
                self.assertEqual(tokens[-1], (len(line), "end", ""))


if __name__ == "__main__":
    unittest.main()
