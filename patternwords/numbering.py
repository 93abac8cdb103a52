"""The words of a piece by their numbers: a stretch of them is built at once, so that its words share their work."""


# The piece must have all the words that are asked for: the callers know how many there are.
def words_from(piece, first, many):
    # These functions call one another, but no deeper than about 200 calls: a pattern has 32 brackets within one
    # another, each may be repeated, and a step into a piece takes three calls.
    if piece.total == 1:
        return [piece.word] * many
    words = []
    for branch in piece.branches:
        if len(words) == many:
            break
        if first >= branch.total:
            first -= branch.total
        else:
            here = min(branch.total - first, many - len(words))
            words.extend(branch_words(branch, first, here))
            first = 0
    return words


# The pieces are like the digits of a number, the last of them turning fastest: so the number tells each one's word.
def branch_words(branch, first, many):
    words = [()]
    behind = branch.total
    for piece in branch.pieces:
        size = piece.total
        behind = behind // size
        low = first // behind
        high = (first + many - 1) // behind
        ends = words_around(piece, low, high - low + 1)
        starts = words
        passed = low // size
        words = [starts[number // size - passed] + ends[number - low] for number in range(low, high + 1)]
    return words


# Behind the last word the first comes again, as it does each time the piece ahead goes on to its next word.
def words_around(piece, first, many):
    start = first % piece.total
    left = piece.total - start
    if many <= left:
        return words_from(piece, start, many)
    more = many - left
    again = words_from(piece, 0, min(more, piece.total))
    return words_from(piece, start, left) + [again[number % len(again)] for number in range(more)]
