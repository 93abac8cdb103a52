"""Reads a pattern byte by byte, so that the first byte that can't stand is known when it comes."""

from patternwords.pieces import alternatives, chained, repeated, single

DEEPEST = 32

LETTER_A = 97
LETTER_Z = 122
DIGIT_0 = 48
LEFT_BRACKET = 40
RIGHT_BRACKET = 41
COMMA = 44
LEFT_BRACE = 123
BAR = 124
RIGHT_BRACE = 125

AWAIT_SIGN = 0
AWAIT_LEAST = 1
AWAIT_COMMA = 2
AWAIT_MOST = 3
AWAIT_BRACE = 4


# Brackets are kept in a list of levels: what stands in them is read by one loop, however deep it is.
class Level:
    def __init__(self):
        self.branches = []
        self.pieces = []

    def end_branch(self):
        self.branches.append(chained(self.pieces))
        self.pieces = []

    def whole(self):
        self.end_branch()
        return alternatives(self.branches)


# Each method that takes a byte answers whether it can stand there, for load has to tell the place of one that can't.
class Reader:
    def __init__(self):
        self.levels = [Level()]
        self.awaits = AWAIT_SIGN
        self.repeatable = False
        self.least = 0
        self.most = 0

    def takes(self, byte):
        if self.awaits == AWAIT_LEAST:
            return self.takes_least(byte)
        if self.awaits == AWAIT_COMMA:
            return self.takes_comma(byte)
        if self.awaits == AWAIT_MOST:
            return self.takes_most(byte)
        if self.awaits == AWAIT_BRACE:
            return self.takes_right_brace(byte)
        return self.takes_sign(byte)

    def takes_sign(self, byte):
        if LETTER_A <= byte <= LETTER_Z:
            return self.takes_item(single((byte,)))
        if byte == LEFT_BRACKET:
            return self.takes_left_bracket()
        if byte == RIGHT_BRACKET:
            return self.takes_right_bracket()
        if byte == BAR:
            return self.takes_bar()
        if byte == LEFT_BRACE:
            return self.takes_left_brace()
        return False

    def takes_item(self, piece):
        self.levels[-1].pieces.append(piece)
        self.repeatable = True
        return True

    def takes_left_bracket(self):
        # The outermost level stands in no bracket.
        if len(self.levels) - 1 == DEEPEST:
            return False
        self.levels.append(Level())
        self.repeatable = False
        return True

    def takes_right_bracket(self):
        if len(self.levels) == 1:
            return False
        inner = self.levels.pop()
        return self.takes_item(inner.whole())

    def takes_bar(self):
        self.levels[-1].end_branch()
        self.repeatable = False
        return True

    def takes_left_brace(self):
        if not self.repeatable:
            return False
        self.awaits = AWAIT_LEAST
        return True

    def takes_least(self, byte):
        digit = byte - DIGIT_0
        if digit < 0 or digit > 9:
            return False
        self.least = digit
        self.awaits = AWAIT_COMMA
        return True

    def takes_comma(self, byte):
        if byte != COMMA:
            return False
        self.awaits = AWAIT_MOST
        return True

    def takes_most(self, byte):
        digit = byte - DIGIT_0
        if digit < self.least or digit > 9:
            return False
        self.most = digit
        self.awaits = AWAIT_BRACE
        return True

    def takes_right_brace(self, byte):
        if byte != RIGHT_BRACE:
            return False
        level = self.levels[-1]
        piece = level.pieces.pop()
        level.pieces.append(repeated(piece, self.least, self.most))
        self.awaits = AWAIT_SIGN
        self.repeatable = False
        return True

    def may_end(self):
        return self.awaits == AWAIT_SIGN and len(self.levels) == 1

    def pattern(self):
        return self.levels[0].whole()
