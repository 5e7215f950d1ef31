"""Stage 5: trees toward a piece of a web, listed, counted and numbered, and choices counted."""

from onceround.determinants import determinant
from onceround.errors import NoSuch, NotOne, TooMany
from onceround.webs import begin_of, end_of, outs, pieces

MOST_TREES = 500


def choice_row(texts, text, words):
    ends = [end_of(word) for word in words]
    return [len(ends) - ends.count(text) if other == text else -ends.count(other) for other in texts]


def choices_counted(ways):
    texts = list(ways)
    return determinant([choice_row(texts, text, ways[text]) for text in texts])


def ways_toward(web, piece):
    every = pieces(web)
    if piece not in every:
        raise NoSuch("the web has no such piece")
    ways = {}
    for other in every:
        if other != piece:
            ways[other] = outs(web, other)
    return ways


def tree_count(web, piece):
    return choices_counted(ways_toward(web, piece))


# The texts from which one may come to a piece by these words, as the keys of a dict.
def coming_to(words, piece):
    begins = {}
    for word in words:
        begins.setdefault(end_of(word), []).append(begin_of(word))
    found = {piece: True}
    waiting = [piece]
    while waiting != []:
        at = waiting.pop()
        for begin in begins.get(at, []):
            if begin not in found:
                found[begin] = True
                waiting.append(begin)
    return found


def is_tree(web, piece, tree):
    ways = ways_toward(web, piece)
    # Words of unlike begins ascend just where their begins do.
    if [begin_of(word) for word in tree] != list(ways):
        return False
    known = all([word in web.words for word in tree])
    return known and len(coming_to(tree, piece)) == len(ways) + 1


def grown(begun, words, later, piece, size):
    found = []
    for tree in begun:
        for word in words:
            more = tree + [word]
            # Some tree goes on from here just where one may still come to the piece from all pieces.
            if len(coming_to(more + later, piece)) == size:
                found.append(more)
    return found


def trees(web, piece):
    ways = ways_toward(web, piece)
    if choices_counted(ways) > MOST_TREES:
        raise TooMany("there are more than 500 trees toward the piece")
    begun = [[]]
    for other in list(ways):
        later = [word for word in web.words if begin_of(word) > other]
        begun = grown(begun, ways[other], later, piece, len(ways) + 1)
    return begun


def tree_by(web, piece, number):
    ways = ways_toward(web, piece)
    if number < 0 or number >= choices_counted(ways):
        raise NoSuch("there is no tree of this number toward the piece")
    tree = []
    ahead = number
    for other in list(ways):
        for word in outs(web, other):
            ways[other] = [word]
            many = choices_counted(ways)
            if ahead < many:
                tree.append(word)
                break
            ahead = ahead - many
    return tree


def tree_number(web, piece, tree):
    ways = ways_toward(web, piece)
    if not is_tree(web, piece, tree):
        raise NotOne("this is no tree toward the piece")
    number = 0
    for word in tree:
        begin = begin_of(word)
        for lesser in outs(web, begin):
            if lesser < word:
                ways[begin] = [lesser]
                number = number + choices_counted(ways)
        ways[begin] = [word]
    return number
