"""The interface: how calls and answers are laid out, and what stays as it was."""

import builtins
import io
import subprocess
import sys
import unittest
from contextlib import redirect_stderr, redirect_stdout
from unittest import mock

from patternwords.desk import answers
from tests.support import COUNT, TOP, ask, each, load, of, told, word


def flat(*calls):
    return [number for call in calls for number in call]


MIXED = flat(load("a(b|c{0,2})d"), COUNT, word(3, 3), word(3, 4), word(4, 4), word(0, 256), each(1, 1), each(4, 0),
             load("a{2,1}"), load("|"), COUNT, word(1, 0))
MIXED_ANSWERS = [1, 0, 1, 4, 1, -3, 5, 4, 97, 99, 99, 100, 1, -1, 1, -2, 8, 7, 2, 97, 100, 3, 97, 99, 100, 1, 0,
                 1, -5, 1, 0, 1, 2, 1, 0]


class Layout(unittest.TestCase):
    def test_one_call(self):
        self.assertEqual(answers([4, 0]), [1, 0])
        self.assertEqual(answers([4, 1, 97]), [1, 0])
        self.assertEqual(answers([4, 1, 41]), [1, -1])
        self.assertEqual(answers([4, 1024] + [97] * 1024), [1, -5000])

    def test_several_calls(self):
        self.assertEqual(answers(list(MIXED)), MIXED_ANSWERS)

    def test_a_text_may_hold_the_numbers_of_calls(self):
        self.assertEqual(ask(load([4, 1, 2, 3]), COUNT, load([97, 1]), COUNT, load([98]), word(0)),
                         [[-1], [1], [-2], [1], [0], told("b")])

    def test_a_hundred_calls(self):
        calls, expected = [], []
        for number in range(25):
            calls.extend([load("a" * number + "|"), COUNT, word(0, 20), each(0, 1)])
            expected.extend([[0], [2], told("a" * number) if number <= 20 else [-3], [7] + told("a" * number) + [0]])
        self.assertEqual(ask(*calls), expected)
        self.assertEqual(answers(flat(load(""), COUNT * 99)), [1, 0] + [1, 1] * 99)

    def test_the_longest_list(self):
        loads = [load("a" * 1023 if number % 2 else "b" * 1100) for number in range(14)]
        calls = loads + [load("(c|d)" * 60), COUNT, word(2 ** 60 - 1)]
        self.assertLessEqual(len(flat(*calls)), 16000)
        self.assertEqual(ask(*calls), [[-5000], [-4000]] * 7 + [[0], [2 ** 60], told("d" * 60)])

    def test_plain_whole_numbers_in_a_plain_list(self):
        result = answers(list(MIXED))
        self.assertIs(type(result), list)
        self.assertEqual({type(number) for number in result}, {int})

    def test_long_answers(self):
        text = "(a|b){9,9}" + "c" * 246
        (answer,) = of(text, each(0, 511))
        self.assertEqual(len(answer), 1 + 512 * 256)
        self.assertEqual(answer[0], 7)
        self.assertEqual(answer[-256:], told("b" * 9 + "c" * 246))


class Unchanged(unittest.TestCase):
    def test_the_list_stays_as_it_was(self):
        for calls in (MIXED, flat(load(")"), COUNT), flat(load("?" * 1100), each(TOP, 1000))):
            given = list(calls)
            answers(given)
            self.assertEqual(given, calls)

    def test_the_list_is_not_changed_for_a_while_either(self):
        class Watched(list):
            def refuse(self, *arguments, **named):
                raise AssertionError("the list was changed")

            append = extend = insert = pop = remove = clear = sort = reverse = refuse
            __setitem__ = __delitem__ = __iadd__ = __imul__ = refuse

        self.assertEqual(answers(Watched(MIXED)), MIXED_ANSWERS)

    def test_what_is_given_back_is_new(self):
        given = list(MIXED)
        first = answers(given)
        first.append(5)
        first[0] = 9
        self.assertEqual(answers(given), MIXED_ANSWERS)

    def test_nothing_is_kept_from_one_time_to_the_next(self):
        self.assertEqual(answers(list(MIXED)), answers(list(MIXED)))
        answers(flat(load("a|b|c"), COUNT))
        self.assertEqual(ask(load("("), COUNT, word(0)), [[-2], [1], [0]])
        answers(flat(load("(a{")))
        self.assertEqual(ask(load("1,2})"), COUNT), [[-1], [1]])
        self.assertEqual(answers(list(MIXED)), MIXED_ANSWERS)


class Quiet(unittest.TestCase):
    def test_it_prints_reads_and_imports_nothing(self):
        def refuse(*arguments, **named):
            raise AssertionError("not asked for")

        out, err = io.StringIO(), io.StringIO()
        with redirect_stdout(out), redirect_stderr(err), mock.patch.object(builtins, "open", refuse), \
                mock.patch.object(builtins, "input", refuse), mock.patch.object(builtins, "__import__", refuse):
            result = answers(list(MIXED))
        self.assertEqual(result, MIXED_ANSWERS)
        self.assertEqual(out.getvalue() + err.getvalue(), "")


class Nesting(unittest.TestCase):
    def test_calls_do_not_nest_as_deep_as_the_input_is_long(self):
        # Both the longest texts and the deepest brackets get along with a few hundred calls within one another.
        script = (
            "import sys\n"
            "from tests.support import COUNT, each, of, word\n"
            "sys.setrecursionlimit(300)\n"
            "of('|' * 1023, COUNT, word(1023), each(0, 1000))\n"
            "of('()' * 511, COUNT, word(0))\n"
            "of('a(b|c)' * 63, COUNT, word(5), each(7, 1000))\n"
            "of('(' * 32 + 'a{0,1}' + '|b){0,1}' * 32, COUNT, word(32), each(0, 1000))\n"
            "of('(' * 32 + 'a{0,1}' + '|b){0,1}(|)' * 32, COUNT, word(32), each(0, 1000))\n"
            "print('well')\n")
        done = subprocess.run([sys.executable, "-c", script], capture_output=True, text=True)
        self.assertEqual((done.stdout, done.stderr), ("well\n", ""))


if __name__ == "__main__":
    unittest.main()
