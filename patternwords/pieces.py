"""The pieces that a pattern is made of: how many words they have, how long these are, and in which order."""

MOST_LETTERS = 255
MOST_WORDS = 18446744073709551615


# A piece of one word keeps the word itself, for a walk through what it was made of may be too long.
class Piece:
    def __init__(self, total, longest, word, branches):
        self.total = total
        self.longest = longest
        self.word = word
        self.branches = branches


class Branch:
    def __init__(self, total, longest, pieces):
        self.total = total
        self.longest = longest
        self.pieces = pieces


def single(word):
    return Piece(1, len(word), word, [])


# Without this, brackets that only repeat the empty word could ask for more steps than anyone can wait for.
def merged(pieces):
    result = []
    for piece in pieces:
        if piece.total == 1 and len(result) > 0 and result[-1].total == 1:
            result[-1] = single(result[-1].word + piece.word)
        else:
            result.append(piece)
    if len(result) == 0:
        return [single(())]
    return result


def chained(pieces):
    total = 1
    longest = 0
    for piece in pieces:
        # Both stop growing just past their limit: {9,9} within {9,9} would soon make numbers too long to work with.
        total = min(total * piece.total, MOST_WORDS + 1)
        longest = min(longest + piece.longest, MOST_LETTERS + 1)
    if longest > MOST_LETTERS:
        # Such words are never asked for: the pattern is refused, or {0,0} leaves them out.
        return Branch(total, longest, [])
    return Branch(total, longest, merged(pieces))


def alternatives(branches):
    if len(branches) == 1 and len(branches[0].pieces) == 1:
        return branches[0].pieces[0]
    total = min(sum([branch.total for branch in branches]), MOST_WORDS + 1)
    longest = max([branch.longest for branch in branches])
    return Piece(total, longest, (), branches)


def repeated(piece, least, most):
    return alternatives([chained([piece] * times) for times in range(least, most + 1)])


def fits(piece):
    return piece.total <= MOST_WORDS and piece.longest <= MOST_LETTERS
