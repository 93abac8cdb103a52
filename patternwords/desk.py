"""The desk takes calls about one pattern, as one list of whole numbers, and gives back their answers as another."""

from patternwords.numbering import words_from
from patternwords.pieces import MOST_LETTERS, fits, single
from patternwords.reading import Reader

COUNT = 1
WORD = 2
EACH = 3

MOST_BYTES = 1023

DONE = 0
STOPPED = 7
NO_SUCH_WORD = -1
WRONG_MOST = -2
WORD_TOO_LONG = -3
PATTERN_TOO_LARGE = -4000
TEXT_TOO_LONG = -5000


def not_at(place):
    return -1 - place


def told(word):
    return [len(word)] + list(word)


def word_answer(pattern, number, most):
    if most < 0 or most > MOST_LETTERS:
        return [WRONG_MOST]
    if number >= pattern.total:
        return [NO_SUCH_WORD]
    word = words_from(pattern, number, 1)[0]
    if len(word) > most:
        return [WORD_TOO_LONG]
    return told(word)


def each_answer(pattern, first, many):
    left = max(pattern.total - first, 0)
    answer = [STOPPED if left > many else DONE]
    for word in words_from(pattern, first, min(left, many + 1)):
        answer.extend(told(word))
    return answer


class Desk:
    def __init__(self, calls):
        self.calls = calls
        self.place = 0
        self.pattern_now = single(())

    def has_more(self):
        return self.place < len(self.calls)

    def take_number(self):
        number = self.calls[self.place]
        self.place += 1
        return number

    def take_row(self):
        start = self.place + 1
        self.place = start + self.calls[self.place]
        return self.calls[start:self.place]

    def answer_next(self):
        call = self.take_number()
        if call == COUNT:
            return [self.pattern_now.total]
        if call == WORD:
            number = self.take_number()
            return word_answer(self.pattern_now, number, self.take_number())
        if call == EACH:
            first = self.take_number()
            return each_answer(self.pattern_now, first, self.take_number())
        return [self.load(self.take_row())]

    def load(self, text):
        if len(text) > MOST_BYTES:
            return TEXT_TOO_LONG
        reader = Reader()
        for place, byte in enumerate(text):
            if not reader.takes(byte):
                return not_at(place)
        if not reader.may_end():
            return not_at(len(text))
        pattern = reader.pattern()
        if not fits(pattern):
            return PATTERN_TOO_LARGE
        self.pattern_now = pattern
        return DONE


def answers(calls):
    desk = Desk(calls)
    result = []
    while desk.has_more():
        answer = desk.answer_next()
        result.append(len(answer))
        result.extend(answer)
    return result
