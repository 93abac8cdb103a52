"""Promise 1: load."""

import itertools
import random
import unittest

from tests.support import COUNT, TOP, ask, each, load, loaded, of, told, word, wrong_place

# Fermat's numbers: (2 + 1)(4 + 1)(16 + 1) .. (2 ** 32 + 1) is 2 ** 64 - 1.
ALL_NUMBERS = "(||)((|){2,2}|)((|){4,4}|)((|){8,8}|)(((|){8,8}){2,2}|)(((|){8,8}){4,4}|)"


class Length(unittest.TestCase):
    def test_1023_bytes_are_read(self):
        self.assertEqual(loaded("|" * 1023), 0)
        self.assertEqual(of("|" * 1023, COUNT), [[1024]])
        self.assertEqual(loaded("(" + "|" * 1021 + ")"), 0)
        self.assertEqual(loaded("|" * 1022 + "("), -1 - 1023)
        self.assertEqual(loaded("|" * 1022 + "A"), -1 - 1022)
        self.assertEqual(loaded("?" * 1023), -1)

    def test_more_bytes_are_refused_whatever_they_are(self):
        for size in (1024, 1025, 1099, 1100):
            for sign in ("|", "a", "(", ")", "{", "\x00", "\xff"):
                self.assertEqual(loaded(sign * size), -5000)


class NoPattern(unittest.TestCase):
    def check(self, text, place):
        self.assertEqual(loaded(text), -1 - place, text)

    def test_at_the_first_place(self):
        for text in (")", "{", "{0,1}", "}", ",", "0", "A", "Z", " ", "*", ")a", "{("):
            self.check(text, 0)

    def test_bytes_that_are_no_sign(self):
        signs = "abcdefghijklmnopqrstuvwxyz(|{"
        for byte in range(256):
            place = 2 if chr(byte) in "({" else 1
            with self.subTest(byte=byte):
                if chr(byte) in signs and chr(byte) not in "({":
                    self.assertEqual(loaded([97, byte]), 0)
                else:
                    self.assertEqual(loaded([97, byte]), -1 - place)
                self.assertEqual(loaded([byte]) == -1, byte not in [ord(sign) for sign in signs if sign != "{"])

    def test_the_text_ends_too_soon(self):
        for text in ("(", "((", "(a", "a(", "(a|", "(()", "(a)(", "(a{1,2}",
                     "a{", "a{1", "a{1,", "a{1,2", "(a){", "(a{0,", "()" * 9 + "("):
            self.check(text, len(text))

    def test_a_closing_bracket_too_many(self):
        self.check("a)", 1)
        self.check("())", 2)
        self.check("(a|b))", 5)
        self.check("a|)", 2)
        self.check("a{1,2})", 6)
        self.check("(())()))", 6)

    def test_a_brace_with_no_item_ahead(self):
        self.check("{0,1}", 0)
        self.check("({0,1})", 1)
        self.check("a|{0,1}", 2)
        self.check("|{0,1}", 1)
        self.check("a{0,1}{0,1}", 6)
        self.check("(a){0,1}{", 8)
        self.check("a()|{", 4)
        self.check("a({", 2)

    def test_within_braces(self):
        for byte in range(256):
            digit = 48 <= byte <= 57
            with self.subTest(byte=byte):
                self.assertEqual(loaded([97, 123, byte]), -4 if digit else -3)
                self.assertEqual(loaded([97, 123, 51, byte]), -5 if byte == 44 else -4)
                self.assertEqual(loaded([97, 123, 51, 44, byte]), -6 if 51 <= byte <= 57 else -5)
                self.assertEqual(loaded([97, 123, 51, 44, 52, byte]), 0 if byte == 125 else -6)

    def test_the_second_digit_is_not_below_the_first(self):
        for least in range(10):
            for most in range(10):
                self.assertEqual(loaded(f"a{{{least},{most}}}"), 0 if least <= most else -5)
        self.check("bc(a{9,8})", 7)

    def test_32_brackets_within_one_another(self):
        self.assertEqual(loaded("(" * 32 + ")" * 32), 0)
        self.assertEqual(loaded("(" * 32 + "a" + ")" * 32 + "(" * 32 + "b" + ")" * 32), 0)
        self.check("(" * 33 + ")" * 33, 32)
        self.check("(" * 33, 32)
        self.check("(" * 32, 32)
        self.check("a|()(" + "(" * 31 + "a(b)", 4 + 32 + 1)
        self.check("(" * 32 + ")((", 32 + 2)
        self.check("(" * 100, 32)

    def test_many_brackets_beside_one_another(self):
        self.assertEqual(of("()" * 511, COUNT), [[1]])
        self.assertEqual(of("(a|b)" * 40, COUNT), [[2 ** 40]])
        self.assertEqual(loaded("(" + "()" * 510 + ")"), 0)

    def test_no_pattern_comes_before_too_large(self):
        self.check("a" * 300 + ")", 300)
        self.check("a" * 300 + "(", 301)
        self.check("(((a{9,9}){9,9}){9,9}){9,9}{", 27)
        self.check("(" * 32 + "(|)", 32)
        self.check("(|)" * 70 + "a{", 212)
        self.check("(" * 32 + "ab" + "){9,9}" * 31 + "){9,8}", 32 + 2 + 6 * 31 + 4)


class SecondOpinion(unittest.TestCase):
    def check(self, text):
        place = wrong_place(text)
        self.assertEqual(loaded(text), 0 if place is None else -1 - place, text)

    def test_all_short_texts(self):
        for size in range(5):
            for signs in itertools.product("a(|){}1,", repeat=size):
                self.check("".join(signs))

    def test_longer_texts(self):
        source = random.Random(1)
        bits = ["a", "b", "(", ")", "(", ")", "|", "{0,2}", "{1,1}", "a{0,1}", "()", "{2,", "{2,1}", "{", "}", ",", "3"]
        weights = [8, 8, 8, 8, 4, 4, 6, 6, 4, 4, 4, 1, 1, 1, 1, 1, 1]
        for turn in range(300):
            text = "".join(source.choices(bits, weights, k=source.randrange(1, 12)))
            if loaded(text) != -4000:
                self.check(text)


class EmptyBranches(unittest.TestCase):
    def test_they_are_branches(self):
        for text, words in (("", [""]), ("|", ["", ""]), ("()", [""]), ("(|)", ["", ""]), ("a||b", ["a", "", "b"]),
                            ("||", ["", "", ""]), ("a|", ["a", ""]), ("|a", ["", "a"]), ("(a|)b", ["ab", "b"]),
                            ("()|()", ["", ""]), ("(){3,5}", ["", "", ""])):
            with self.subTest(text=text):
                answered = of(text, COUNT, *[word(number) for number in range(len(words) + 1)])
                self.assertEqual(answered, [[len(words)]] + [told(entry) for entry in words] + [[-1]])


class TooLarge(unittest.TestCase):
    def test_the_longest_word(self):
        for text, letters in (("a" * 255, 255), ("a" * 256, 256), ("a" * 1023, 1023),
                              ("((a{4,4}){8,8}){8,8}", 256), ("((a{4,4}){8,8}){7,7}" + "b" * 31, 255),
                              ("((a{4,4}){8,8}){7,7}" + "b" * 32, 256),
                              ("b|" + "a" * 255 + "|c", 255), ("b|" + "a" * 256 + "|c", 256),
                              ("a" * 250 + "(b|cc|ddddd|)", 255), ("a" * 250 + "(b|cc|dddddd|)", 256),
                              ("a" * 249 + "b{0,6}", 255), ("a" * 249 + "b{0,7}", 256),
                              ("(a{5,5}){5,5}" * 10 + "(b|){0,5}", 255), ("(a{5,5}){5,5}" * 10 + "(b|){0,6}", 256)):
            with self.subTest(text=text):
                self.assertEqual(loaded(text), 0 if letters <= 255 else -4000)

    def test_the_number_of_words(self):
        self.assertEqual(of(ALL_NUMBERS, COUNT), [[TOP]])
        self.assertEqual(loaded(ALL_NUMBERS + "|"), -4000)
        self.assertEqual(loaded("|" + ALL_NUMBERS), -4000)
        self.assertEqual(loaded(f"({ALL_NUMBERS}){{0,1}}"), -4000)
        self.assertEqual(loaded(f"({ALL_NUMBERS}){{1,1}}"), 0)
        self.assertEqual(loaded(f"({ALL_NUMBERS}){{1,2}}"), -4000)
        self.assertEqual(loaded(f"({ALL_NUMBERS})(|)"), -4000)
        self.assertEqual(of("((a|b){9,9}){7,7}", COUNT), [[2 ** 63]])
        self.assertEqual(loaded("((a|b){8,8}){8,8}"), -4000)
        self.assertEqual(loaded("(a|b)" * 63), 0)
        self.assertEqual(loaded("(a|b)" * 64), -4000)
        self.assertEqual(loaded("((|){8,8}){8,8}"), -4000)

    def test_what_stands_ahead_of_0_0_does_not_count(self):
        for inner in ("a" * 300, "(a|b)" * 70, "(((a{9,9}){9,9}){9,9}){9,9}", "(((|){9,9}){9,9}){9,9}", ALL_NUMBERS + "|",
                      "(a|b)" * 70 + "(a{9,9}){9,9}" * 4):
            with self.subTest(inner=inner):
                self.assertEqual(loaded(inner), -4000)
                self.assertEqual(loaded(f"({inner}){{0,1}}"), -4000)
                self.assertEqual(of(f"({inner}){{0,0}}", COUNT, word(0), word(1)), [[1], [0], [-1]])
                self.assertEqual(of(f"x({inner}){{0,0}}(y|z)", COUNT, each(0, 9)),
                                 [[2], [0, 2, 120, 121, 2, 120, 122]])
                self.assertEqual(of(f"(((b({inner})|c){{9,9}}){{0,0}}|d){{2,2}}", COUNT, each(1, 9)),
                                 [[4], [0, 1, 100, 1, 100, 2, 100, 100]])

    def test_deep_repetition_is_refused_at_once(self):
        for inner in ("a", "|", "a|b", "a{0,1}b{0,9}|"):
            text = "(" * 32 + inner + "){9,9}" * 32
            self.assertEqual(loaded(text), -4000)
            self.assertEqual(loaded("(" * 32 + inner + "){0,9}" * 32), -4000)
            self.assertEqual(of("(" * 32 + inner + "){9,9}" * 31 + "){0,0}", COUNT, each(0, 1)), [[1], [0, 0]])


class NothingChanges(unittest.TestCase):
    refused = (("a" * 1024, -5000), ("?" * 1100, -5000), ("a{2,1}", -5), ("x(", -3), (")", -1), ("c|d)", -4),
               ("a" * 256, -4000), ("((a|b){8,8}){8,8}", -4000), ("(" * 33, -33), ("c{", -3))

    def test_a_first_refused_load_leaves_the_pattern_without_bytes(self):
        for text, number in self.refused:
            with self.subTest(text=text):
                self.assertEqual(ask(load(text), COUNT, word(0), word(1), each(0, 5)), [[number], [1], [0], [-1], [0, 0]])

    def test_a_refused_load_leaves_the_pattern_as_it_was(self):
        calls = [load("k|lm")]
        expected = [[0]]
        for text, number in self.refused:
            calls.extend([load(text), COUNT, each(0, 5)])
            expected.extend([[number], [2], [0] + told("k") + told("lm")])
        self.assertEqual(ask(*calls), expected)

    def test_a_load_that_is_taken_replaces_the_pattern(self):
        self.assertEqual(ask(load("a"), load("b|c|d"), COUNT, word(2), load(""), COUNT, word(0)),
                         [[0], [0], [3], told("d"), [0], [1], [0]])


if __name__ == "__main__":
    unittest.main()
