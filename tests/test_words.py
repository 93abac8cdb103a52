"""Promises 2 to 4: count, word and each."""

import random
import unittest

from tests.support import COUNT, TOP, all_words, ask, each, handed, load, of, told, word
from tests.test_load import ALL_NUMBERS

EXAMPLE = "a(b|c{0,2})d"


def lettered_word(number):
    """The word with this number of ALL_NUMBERS with (a|b) in the place of (|)."""
    text = ""
    for letters in (32, 16, 8, 4, 2, 1):
        number, digit = divmod(number, 2 ** letters + 1)
        if digit < 2 ** letters:
            text = format(digit, f"0{letters}b").replace("0", "a").replace("1", "b") + text
    return text


LETTERED = "(a|b|)" + ALL_NUMBERS[4:].replace("(|)", "(a|b)")


class Count(unittest.TestCase):
    def test_words_that_are_equal_count_as_often_as_they_come(self):
        for text, count in (("a", 1), ("a|a", 2), ("(a|a){2,2}", 4), ("(){0,2}", 3), ("(){0,0}", 1), ("(){2,2}", 1),
                            ("(|){0,2}", 7), ("((){0,2}){0,2}", 13), ("a{0,9}", 10), ("(a|b){0,3}", 15),
                            ("(a{0,1}){2,3}", 12), ("a{0,1}b{0,1}", 4), (EXAMPLE, 4), ("", 1), ("(a|b)(c|d|e)", 6)):
            with self.subTest(text=text):
                self.assertEqual(of(text, COUNT), [[count]])

    def test_large_numbers(self):
        self.assertEqual(of(LETTERED, COUNT), [[TOP]])
        self.assertEqual(of("(((){0,9}){9,9}){0,2}", COUNT), [[1 + 10 ** 9 + 10 ** 18]])
        self.assertEqual(of("((a|b|c){8,8}){5,5}", COUNT), [[3 ** 40]])


class Order(unittest.TestCase):
    def check(self, text):
        words = all_words(text)
        answered = of(text, COUNT, *[word(number) for number in range(min(len(words), 90))], word(len(words)))
        self.assertEqual(answered[0], [len(words)], text)
        self.assertEqual(answered[1:-1], [told(entry) for entry in words[:90]], text)
        self.assertEqual(answered[-1], [-1], text)

    def test_the_example(self):
        self.assertEqual(of(EXAMPLE, *[word(number) for number in range(5)]),
                         [told("abd"), told("ad"), told("acd"), told("accd"), [-1]])
        self.assertEqual(of(EXAMPLE, each(0, 1000)), [handed(0, ["abd", "ad", "acd", "accd"])])

    def test_items_repeated_within_repeated_brackets(self):
        self.assertEqual(of("(a{1,2}|b){1,2}", each(0, 1000)),
                         [handed(0, ["a", "aa", "b", "aa", "aaa", "ab", "aaa", "aaaa", "aab", "ba", "baa", "bb"])])
        for text in ("((a|b){0,2}c){1,2}", "(a{0,1}b{1,2}){0,2}", "((a{0,1}|b){1,2}|c{0,2}){0,2}",
                     "x((a|bc){2,3}y{0,1}){1,1}z", "((|a){1,2}){1,2}", "(((a|b){1,1}|c){0,1}|d){2,2}"):
            self.check(text)

    def test_every_letter(self):
        letters = "abcdefghijklmnopqrstuvwxyz"
        self.assertEqual(of(letters, word(0)), [told(letters)])
        self.assertEqual(of("|".join(letters), each(0, 26)), [handed(0, letters)])

    def test_random_patterns(self):
        source = random.Random(2)
        for turn in range(400):
            text = random_pattern(source, 3)
            if len(text) <= 200 and size_at_most(text, 3000):
                self.check(text)


class Word(unittest.TestCase):
    def test_first_last_and_past_the_last(self):
        self.assertEqual(of("a|b|c", word(0), word(2), word(3), word(4), word(TOP)), [told("a"), told("c"), [-1], [-1], [-1]])
        self.assertEqual(of("", word(0), word(1), word(TOP)), [[0], [-1], [-1]])

    def test_numbers_up_to_the_largest(self):
        numbers = [0, 1, 2, 2 ** 32, 2 ** 32 + 1, 2 ** 63 - 1, 2 ** 63, 12345678901234567890, TOP - 2, TOP - 1]
        answered = of(LETTERED, *[word(number) for number in numbers], word(TOP))
        self.assertEqual(answered, [told(lettered_word(number)) for number in numbers] + [[-1]])
        self.assertEqual(of("((a|b){9,9}){7,7}", word(2 ** 63 - 1), word(2 ** 63), word(2 ** 62)),
                         [told("b" * 63), [-1], told("b" + "a" * 62)])

    def test_most(self):
        wrong, short = [-2], [-3]
        for most, expected in ((-2147483648, wrong), (-1, wrong), (0, short), (2, short), (3, told("abc")), (4, told("abc")),
                               (255, told("abc")), (256, wrong), (2147483647, wrong)):
            self.assertEqual(of("abc", word(0, most)), [expected], most)

    def test_most_and_the_longest_word(self):
        long_word = "ab" * 127 + "c"
        self.assertEqual(of(long_word + "|", word(0, 255), word(0, 254), word(0, 256), word(0, 0), word(1, 0), word(1, 256)),
                         [told(long_word), [-3], [-2], [-3], [0], [-2]])

    def test_just_most_letters(self):
        words = all_words("a{0,9}")
        for most in range(10):
            answered = of("a{0,9}", *[word(number, most) for number in range(10)])
            self.assertEqual(answered, [told(entry) if len(entry) <= most else [-3] for entry in words])

    def test_the_order_of_the_refusals(self):
        self.assertEqual(of("abc", word(1, -1), word(1, 256), word(1, 0), word(0, -1), word(0, 2), word(TOP, 2147483647)),
                         [[-2], [-2], [-1], [-2], [-3], [-2]])

    def test_refusals_change_nothing(self):
        self.assertEqual(of("ab|c", word(0, -1), word(9, 9), word(0, 1), COUNT, each(0, 9)),
                         [[-2], [-1], [-3], [2], handed(0, ["ab", "c"])])


class Each(unittest.TestCase):
    def test_none_may_pass(self):
        self.assertEqual(of(EXAMPLE, *[each(number, 0) for number in range(5)]),
                         [handed(7, ["abd"]), handed(7, ["ad"]), handed(7, ["acd"]), handed(7, ["accd"]), [0]])
        self.assertEqual(of("", each(0, 0), each(1, 0)), [[7, 0], [0]])

    def test_as_many_words_as_may_pass_and_one_more(self):
        words = ["abd", "ad", "acd", "accd"]
        for first in range(6):
            for many in range(7):
                left = words[first:]
                expected = handed(7 if len(left) > many else 0, left[:many + 1])
                self.assertEqual(of(EXAMPLE, each(first, many)), [expected], (first, many))

    def test_from_at_and_past_the_number_of_words(self):
        for many in (0, 1, 1000):
            self.assertEqual(of("a|b", each(2, many), each(3, many), each(TOP, many), each(2 ** 63, many)), [[0]] * 4)

    def test_equal_words_are_all_handed_over(self):
        self.assertEqual(of("a|a|", each(0, 2), each(0, 3), each(1, 5)),
                         [handed(7, ["a", "a", ""]), handed(0, ["a", "a", ""]), handed(0, ["a", ""])])
        self.assertEqual(of("(){0,2}", each(0, 2), each(0, 3), each(2, 1)), [[7, 0, 0, 0], [0, 0, 0, 0], [0, 0]])

    def test_many_1000(self):
        text = "(a|b|c|d|e|f|g|h|i|j){3,3}"
        words = all_words(text)
        self.assertEqual(len(words), 1000)
        self.assertEqual(of(text, each(0, 1000), each(0, 999), each(1, 1000), each(999, 1000), each(1000, 1000)),
                         [handed(0, words), handed(7, words), handed(0, words[1:]), handed(0, words[999:]), [0]])
        words = words + ["k"]
        self.assertEqual(of(text + "|k", each(0, 1000), each(1, 1000)), [handed(7, words), handed(0, words[1:])])
        self.assertEqual(of(text + "|k|l", each(0, 1000), each(1, 1000)), [handed(7, words), handed(7, words[1:] + ["l"])])

    def test_near_the_largest_number(self):
        def stretch(first, last):
            return [lettered_word(number) for number in range(first, last)]

        self.assertEqual(of(LETTERED, each(TOP - 1, 0), each(TOP - 1, 1), each(TOP, 0), each(TOP, 1000)),
                         [handed(7, stretch(TOP - 1, TOP)), handed(0, stretch(TOP - 1, TOP)), [0], [0]])
        self.assertEqual(of(LETTERED, each(TOP - 1000, 1000)), [handed(0, stretch(TOP - 1000, TOP))])
        self.assertEqual(of(LETTERED, each(TOP - 1001, 1000)), [handed(7, stretch(TOP - 1001, TOP))])
        self.assertEqual(of(LETTERED, each(TOP - 1002, 1000)), [handed(7, stretch(TOP - 1002, TOP - 1))])
        for middle in (2 ** 32 + 1, 2 ** 63, (2 ** 32 + 1) * (2 ** 16 + 1) * 77):
            self.assertEqual(of(LETTERED, each(middle - 500, 1000)), [handed(7, stretch(middle - 500, middle + 501))])

    def test_random_patterns(self):
        source = random.Random(3)
        for turn in range(300):
            text = random_pattern(source, 3)
            if len(text) > 200 or not size_at_most(text, 5000):
                continue
            words = all_words(text)
            calls, expected = [], []
            for again in range(20):
                first = source.randrange(len(words) + 2)
                many = source.choice((0, 1, 2, 3, 7, 30, 200, 1000, max(len(words) - first, 0) % 1001))
                calls.append(each(first, many))
                expected.append(handed(7 if len(words) - first > many else 0, words[first:first + many + 1]))
            self.assertEqual(of(text, *calls), expected, text)

    def test_each_hands_over_what_word_gives(self):
        source = random.Random(4)
        for text in ("((a|b{0,3}|(c|d){1,2}){1,2}e{0,1}){3,4}", "((((a{0,1}|b){0,1}|c){0,1}|d){0,1}){0,9}",
                     "(a|b)" * 40, "(a|b|c(d|e){0,2}f|){9,9}", LETTERED):
            (total,), = of(text, COUNT)
            for turn in range(20):
                first = source.randrange(total)
                numbers = range(first, min(first + 61, total))
                answered = of(text, each(first, 60), *[word(number) for number in numbers])
                words = [number for answer in answered[1:] for number in answer]
                self.assertEqual(answered[0], [7 if total - first > 60 else 0] + words)


class Size(unittest.TestCase):
    def test_32_brackets_with_repetition_behind_each(self):
        deep = "(" * 32
        self.assertEqual(of(deep + "){9,9}" * 32, COUNT, word(0), word(1), each(0, 0), each(0, 1)),
                         [[1], [0], [-1], [7, 0], [0, 0]])
        self.assertEqual(of(deep + "a" + "){1,1}" * 32, COUNT, word(0)), [[1], told("a")])
        self.assertEqual(of(deep + "a" + "){0,1}" * 32, COUNT, each(0, 1000)), [[33], handed(0, [""] * 32 + ["a"])])
        self.assertEqual(of(deep + "){0,1}" * 32, COUNT, each(0, 33)), [[33], [0] + [0] * 33])
        self.assertEqual(of(deep + "a{0,1}" + "|b){0,1}" * 32, COUNT, word(33), word(65), each(30, 4)),
                         [[66], told("a"), told("b"), handed(7, ["", "", "", "a", "b"])])
        self.assertEqual(of(deep + "a" + "|b){9,9}" + "){1,1}" * 31, COUNT, word(511)), [[512], told("b" * 9)])
        self.assertEqual(of(deep + "a|" + "){9,9}" + "){7,7}" + "){0,1}" * 30, COUNT, word(29), word(30), word(31)),
                         [[2 ** 63 + 30], [0], told("a" * 63), told("a" * 62)])

    def test_deep_patterns_beside_one_another(self):
        part = "(" * 32 + "a{0,1}" + "|b){0,1}" * 32
        words = [""] * 33 + ["a"] + ["b"] * 32
        numbers = [0, 1, 65, 66, 66 * 66 - 1, 100000, 66 ** 3 - 1]
        expected = [told(words[number // 4356] + words[number // 66 % 66] + words[number % 66]) for number in numbers]
        self.assertEqual(of(part * 3, COUNT, *[word(number) for number in numbers]), [[66 ** 3]] + expected)

    def test_many_calls_on_very_many_words(self):
        top = 2 ** 63
        # Only the last eleven of 63 brackets differ in these words; the others give the empty word.
        words = ["a" * format(number, "011b").count("0") for number in range(2 ** 11)]
        calls = [each(top - 2 ** 11 + number, 1000) for number in range(98)]
        expected = [handed(7, words[number:number + 1001]) for number in range(98)]
        self.assertEqual(of("((a|){9,9}){7,7}", COUNT, *calls), [[top]] + expected)

    def test_very_many_empty_words(self):
        text = "((|){9,9}){7,7}"
        self.assertEqual(of(text, COUNT, *[each(number * 2 ** 56, 1000) for number in range(90)]),
                         [[2 ** 63]] + [[7] + [0] * 1001] * 90)

    def test_many_empty_brackets_within_repeated_ones(self):
        text = "((((a" + "()" * 200 + "|" + "()" * 250 + "b){5,5}){2,2}){2,2})"
        self.assertEqual(of(text, COUNT, word(0), word(2 ** 20 - 1), each(2 ** 19, 0)),
                         [[2 ** 20], told("a" * 20), told("b" * 20), handed(7, ["b" + "a" * 19])])

    def test_many_branches(self):
        text = "(" + "|" * 500 + "a)" + "(" + "b" + "|" * 500 + ")"
        self.assertEqual(of(text, COUNT, word(0), word(1), word(501 * 500), word(501 * 501 - 1), each(501 * 499, 501)),
                         [[501 * 501], told("b"), [0], told("ab"), told("a"),
                          handed(7, ["b"] + [""] * 500 + ["ab"])])


def random_pattern(source, depth):
    return "|".join(random_branch(source, depth) for branch in range(source.choice((1, 1, 2, 3))))


def random_branch(source, depth):
    return "".join(random_item(source, depth) for item in range(source.choice((0, 1, 1, 2, 2, 3))))


def random_item(source, depth):
    item = source.choice("abc")
    if depth > 0 and source.random() < 0.6:
        item = "(" + random_pattern(source, depth - 1) + ")"
    if source.random() < 0.4:
        least = source.choice((0, 0, 1, 1, 2))
        item += f"{{{least},{least + source.choice((0, 1, 1, 2))}}}"
    return item


def size_at_most(text, limit):
    answered = ask(load(text), COUNT)
    return answered[0] == [0] and answered[1][0] <= limit


if __name__ == "__main__":
    unittest.main()
