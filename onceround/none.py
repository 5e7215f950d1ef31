"""Stage 3: papers that show why a web has no ring or no row, and the ends of its rows."""

from onceround.errors import NoRing
from onceround.webs import begin_of, end_of, excess, hanging, pieces


def why_apart(web):
    every = pieces(web)
    together = hanging(web, every[0])
    if len(together) == len(every):
        return None
    return ("apart", tuple(together))


def why_no_ring(web):
    for piece in pieces(web):
        if excess(web, [piece]) != 0:
            return ("uneven", (piece,))
    return why_apart(web)


def why_no_row(web):
    above = [piece for piece in pieces(web) if excess(web, [piece]) > 0]
    if excess(web, above) >= 2:
        return ("uneven", tuple(above))
    return why_apart(web)


def is_right_made(web, some):
    known = pieces(web)
    strange = [piece for piece in some if piece not in known]
    return len(some) > 0 and strange == [] and list(some) == sorted(set(some))


def is_apart(web, some):
    crossing = [word for word in web.words if (begin_of(word) in some) != (end_of(word) in some)]
    return len(some) < len(pieces(web)) and crossing == []


def shows_no_ring(web, paper):
    if not is_right_made(web, paper[1]):
        return False
    if paper[0] == "uneven":
        return excess(web, paper[1]) != 0
    return paper[0] == "apart" and is_apart(web, paper[1])


def shows_no_row(web, paper):
    if not is_right_made(web, paper[1]):
        return False
    if paper[0] == "uneven":
        return abs(excess(web, paper[1])) > 1
    return paper[0] == "apart" and is_apart(web, paper[1])


def row_ends(web):
    paper = why_no_row(web)
    if paper is not None:
        raise NoRing("the web has no row", paper)
    if why_no_ring(web) is None:
        return None
    firsts = [piece for piece in pieces(web) if excess(web, [piece]) > 0]
    lasts = [piece for piece in pieces(web) if excess(web, [piece]) < 0]
    return (firsts[0], lasts[0])
