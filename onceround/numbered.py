"""Stage 6: ways on, rings and rows, counted and numbered."""

from onceround.errors import NoSuch, NotOne
from onceround.none import row_ends, why_no_row
from onceround.rings import is_ring, is_row, without
from onceround.trees import choices_counted
from onceround.webs import begin_of, end_of, outs, pieces
from onceround.words import windows


def is_even(words, one, other):
    begins = [begin_of(word) for word in words] + [other]
    ends = [end_of(word) for word in words] + [one]
    return sorted(begins) == sorted(ends)


def by_begin(words):
    ways = {}
    for word in words:
        ways.setdefault(begin_of(word), []).append(word)
    return ways


def product_up_to(many):
    product = 1
    for factor in range(1, many + 1):
        product = product * factor
    return product


def ways_on(words, one, other):
    if not is_even(words, one, other):
        return 0
    ways = by_begin(words)
    # By its word in the tree each text is left for the last time; out of the other text no word is in the tree.
    orders = product_up_to(len(ways.pop(other, [])))
    for text in ways:
        orders = orders * product_up_to(len(ways[text]) - 1)
    return orders * choices_counted(ways)


def way_by(words, one, other, number):
    text = one
    at = one
    left = list(words)
    ahead = number
    while left != []:
        for word in by_begin(left)[at]:
            many = ways_on(without(left, word), end_of(word), other)
            if ahead < many:
                break
            ahead = ahead - many
        text = text + word[-1]
        at = end_of(word)
        left = without(left, word)
    return text


def way_number(words, order, other):
    number = 0
    left = list(words)
    for word in order:
        for lesser in by_begin(left)[begin_of(word)]:
            if lesser < word:
                number = number + ways_on(without(left, lesser), end_of(lesser), other)
        left = without(left, word)
    return number


def ring_count(web):
    # A way on behind the least word, back to its begin, is even and hangs together just where the web does.
    least = web.words[0]
    return ways_on(web.words[1:], end_of(least), begin_of(least))


def ring_by(web, number):
    if number < 0 or number >= ring_count(web):
        raise NoSuch("the web has no ring of this number")
    least = web.words[0]
    row = least[0] + way_by(web.words[1:], end_of(least), begin_of(least), number)
    return row[:len(web.words)]


def ring_number(web, ring):
    if not is_ring(web, ring):
        raise NotOne("the text is no ring of the web, told from its least word")
    return way_number(web.words[1:], windows(ring, web.length, True)[1:], begin_of(web.words[0]))


# From each piece, ascending, to how many rows begin with it.
def row_counts(web):
    rings = ring_count(web)
    counts = {}
    for piece in pieces(web):
        counts[piece] = rings * len(outs(web, piece))
    if rings == 0 and why_no_row(web) is None:
        ends = row_ends(web)
        counts[ends[0]] = ways_on(web.words, ends[0], ends[1])
    return counts


def row_count(web):
    return sum(row_counts(web).values())


def rows_from(web, piece):
    counts = row_counts(web)
    if piece not in counts:
        raise NoSuch("the web has no such piece")
    return counts[piece]


def row_end(web, piece):
    ends = row_ends(web)
    if ends is None:
        return piece
    return ends[1]


def row_by(web, number):
    counts = row_counts(web)
    if number < 0 or number >= sum(counts.values()):
        raise NoSuch("the web has no row of this number")
    ahead = number
    for piece in counts:
        if ahead < counts[piece]:
            break
        ahead = ahead - counts[piece]
    return way_by(web.words, piece, row_end(web, piece), ahead)


def row_number(web, row):
    if not is_row(web, row):
        raise NotOne("the text is no row of the web")
    counts = row_counts(web)
    begin = row[:web.length - 1]
    ahead = sum([counts[piece] for piece in counts if piece < begin])
    return ahead + way_number(web.words, windows(row, web.length, False), row[len(web.words):])
