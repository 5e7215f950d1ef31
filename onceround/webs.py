"""Stage 3: webs of words, their pieces, what hangs together, and excess."""

from onceround.errors import BadWord, NoSuch, TooMany
from onceround.words import LETTERS, looked

MOST_OF_A_WEB = 64
LONGEST_OF_A_WEB = 8


def looked_web(words):
    if len(words) > MOST_OF_A_WEB:
        raise TooMany("a web has at most 64 words")
    if len(words) == 0:
        raise BadWord("a web has at least one word")
    for word in words:
        looked(word, len(LETTERS))
        if len(word) > LONGEST_OF_A_WEB:
            raise BadWord("a word of a web has at most 8 letters")
        if len(word) != len(words[0]):
            raise BadWord("the words of a web have one length")
    if len(set(words)) != len(words):
        raise BadWord("a word stands in a web once")


class Web:
    def __init__(self, words):
        looked_web(words)
        self.words = tuple(sorted(words))
        self.length = len(words[0])


def begin_of(word):
    return word[:-1]


def end_of(word):
    return word[1:]


def pieces(web):
    return sorted(set([begin_of(word) for word in web.words]) | set([end_of(word) for word in web.words]))


def outs(web, piece):
    return [word for word in web.words if begin_of(word) == piece]


def ins(web, piece):
    return [word for word in web.words if end_of(word) == piece]


def excess(web, some):
    going = [word for word in web.words if begin_of(word) in some]
    coming = [word for word in web.words if end_of(word) in some]
    return len(going) - len(coming)


# The pieces that hang together with a piece by these words alone, as the keys of a dict.
def hanging_by(words, piece):
    found = {piece: True}
    known = 0
    # A word may come ahead of the one by which its piece is found, so all are gone through till none adds a piece.
    while known < len(found):
        known = len(found)
        for word in words:
            if begin_of(word) in found or end_of(word) in found:
                found[begin_of(word)] = True
                found[end_of(word)] = True
    return found


def hanging(web, piece):
    if piece not in pieces(web):
        raise NoSuch("the web has no such piece")
    return sorted(hanging_by(web.words, piece))
