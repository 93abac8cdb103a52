"""What the tests share: how calls are written down, and a slow second opinion on what a pattern is and has."""

import itertools
import re

from patternwords.desk import answers

TOP = 18446744073709551615
COUNT = [1]


def load(text):
    """text: a str, or a list of byte values."""
    numbers = [ord(sign) for sign in text] if isinstance(text, str) else list(text)
    return [4, len(numbers)] + numbers


def word(number, most=255):
    return [2, number, most]


def each(first, many):
    return [3, first, many]


def told(text):
    return [len(text)] + [ord(sign) for sign in text]


def handed(first, words):
    """The answer of each: its first number and the words behind it."""
    result = [first]
    for text in words:
        result.extend(told(text))
    return result


def ask(*calls):
    """One answer (a list) for each call."""
    flat = [number for call in calls for number in call]
    numbers = answers(flat)
    parts = []
    place = 0
    while place < len(numbers):
        size = numbers[place]
        part = numbers[place + 1:place + 1 + size]
        if size < 1 or len(part) != size:
            raise AssertionError(f"the count at {place} does not fit: {numbers}")
        parts.append(part)
        place += 1 + size
    if len(parts) != len(calls):
        raise AssertionError(f"{len(calls)} calls, but {len(parts)} answers")
    return parts


def of(text, *calls):
    """The answers about a pattern that is taken."""
    first, *rest = ask(load(text), *calls)
    if first != [0]:
        raise AssertionError(f"{text!r} is refused: {first}")
    return rest


def loaded(text):
    """What load answers, one number."""
    (answer,) = ask(load(text))
    if len(answer) != 1:
        raise AssertionError(f"load answered {answer}")
    return answer[0]


REPEAT = "|".join(rf"\{{{least},[{least}-9]\}}" for least in range(10))
FLAT = rf"(?:[a-z](?:{REPEAT})?|\|)*"


def is_pattern(text):
    """Innermost brackets become a letter until none is left."""
    depth = 0
    for sign in text:
        depth += {"(": 1, ")": -1}.get(sign, 0)
        if depth > 32:
            return False
    while True:
        shorter = re.sub(rf"\({FLAT}\)", "a", text)
        if shorter == text:
            return re.fullmatch(FLAT, text) is not None
        text = shorter


def may_go_on(text):
    """Whether something can be put behind text that makes a pattern of it."""
    return any(is_pattern(text + end + ")" * brackets)
               for end in ("", "}", "9}", ",9}", "0,9}")
               for brackets in range(33))


def wrong_place(text):
    """The place where text stops to be a pattern, or None."""
    for place in range(len(text)):
        if not may_go_on(text[:place + 1]):
            return place
    return None if is_pattern(text) else len(text)


def all_words(text):
    """Every word of a pattern, written out."""
    words, place = branches_at(text, 0)
    if place != len(text):
        raise AssertionError(text)
    return words


def branches_at(text, place):
    words, place = branch_at(text, place)
    while text[place:place + 1] == "|":
        more, place = branch_at(text, place + 1)
        words = words + more
    return words, place


def branch_at(text, place):
    items = []
    while place < len(text) and text[place] not in "|)":
        if text[place] == "(":
            words, place = branches_at(text, place + 1)
        else:
            words = [text[place]]
        place += 1
        if text[place:place + 1] == "{":
            least, most = int(text[place + 1]), int(text[place + 3])
            words = [entry for times in range(least, most + 1) for entry in joined([words] * times)]
            place += 5
        items.append(words)
    return joined(items), place


def joined(items):
    return ["".join(choice) for choice in itertools.product(*items)]
