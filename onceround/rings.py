"""Stage 4: rings and rows of a web, how one is made of the other, and the least ones."""

from onceround.errors import NoRing, NoSuch, NotOne
from onceround.none import row_ends, why_no_ring
from onceround.webs import begin_of, end_of, hanging_by
from onceround.words import turned, windows


def is_turned_ring(web, text):
    return sorted(windows(text, web.length, True)) == list(web.words)


def is_ring(web, text):
    return is_turned_ring(web, text) and windows(text, web.length, True)[0] == web.words[0]


def told_ring(web, text):
    if not is_turned_ring(web, text):
        raise NotOne("the text is no turn of a ring of the web")
    return turned(text, windows(text, web.length, True).index(web.words[0]))


def is_row(web, text):
    return sorted(windows(text, web.length, False)) == list(web.words)


def row_at(web, ring, place):
    if not is_ring(web, ring):
        raise NotOne("the text is no ring of the web, told from its least word")
    if place < 0 or place >= len(ring):
        raise NoSuch("the ring has no such place")
    # A ring may be shorter than its words: gone round as often as a word has letters, it is long enough.
    around = turned(ring, place) * web.length
    return around[:len(ring) + web.length - 1]


def closed(web, row):
    size = len(web.words)
    if not is_row(web, row):
        raise NotOne("the text is no row of the web")
    if row[:web.length - 1] != row[size:]:
        raise NotOne("the row does not end where it begins")
    return told_ring(web, row[:size])


def without(words, word):
    return [other for other in words if other != word]


def can_go_on(left, piece):
    # As many words lead to each piece as from it, but for where one is and where the way ends. So the words
    # left are gone through, each once, just where none of them lies apart.
    reached = hanging_by(left, piece)
    return all([begin_of(word) in reached for word in left])


def least_step(left, piece):
    ways = [word for word in left if begin_of(word) == piece]
    going_on = [word for word in ways if can_go_on(without(left, word), end_of(word))]
    return going_on[0]


def least_way(web, piece):
    text = piece
    at = piece
    left = list(web.words)
    while left != []:
        word = least_step(left, at)
        text = text + word[-1]
        at = end_of(word)
        left = without(left, word)
    return text


def least_row(web):
    ends = row_ends(web)
    if ends is None:
        # Where there is a ring a row begins with each word, so the least row begins with the least word.
        return least_way(web, begin_of(web.words[0]))
    return least_way(web, ends[0])


def least_ring(web):
    paper = why_no_ring(web)
    if paper is not None:
        raise NoRing("the web has no ring", paper)
    return least_row(web)[:len(web.words)]
