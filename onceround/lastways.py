"""Stage 6: last ways, the parts of a ring, and the ring of parts."""

from onceround.errors import NoRing, NotOne
from onceround.none import why_no_ring
from onceround.numbered import by_begin
from onceround.rings import is_ring
from onceround.trees import is_tree
from onceround.webs import begin_of, end_of, outs, pieces
from onceround.words import windows


def parts_of(web, ring):
    if not is_ring(web, ring):
        raise NotOne("the text is no ring of the web, told from its least word")
    gone = by_begin(windows(ring, web.length, True))
    home = begin_of(web.words[0])
    tree = []
    orders = []
    for piece in pieces(web):
        if piece == home:
            # The ring is gone from the least word on, so that is the first one out of the home.
            orders.append(tuple(gone[piece][1:]))
        else:
            orders.append(tuple(gone[piece][:-1]))
            tree.append(gone[piece][-1])
    return (tree, orders)


# The words out of each piece in the order in which they are gone, as a dict from pieces.
def whole_orders(web, tree, orders):
    lasts = by_begin(tree)
    whole = {}
    for piece, order in zip(pieces(web), orders):
        whole[piece] = list(order) + lasts.get(piece, [])
    least = web.words[0]
    whole[begin_of(least)] = [least] + whole[begin_of(least)]
    return whole


def are_parts(web, tree, orders):
    if not is_tree(web, begin_of(web.words[0]), tree) or len(orders) != len(pieces(web)):
        return False
    whole = whole_orders(web, tree, orders)
    return all([sorted(whole[piece]) == outs(web, piece) for piece in whole])


def gone_round(web, whole):
    text = ""
    at = begin_of(web.words[0])
    for step in range(len(web.words)):
        word = whole[at].pop(0)
        text = text + word[0]
        at = end_of(word)
    return text


def ring_of(web, tree, orders):
    paper = why_no_ring(web)
    if paper is not None:
        raise NoRing("the web has no ring", paper)
    if not are_parts(web, tree, orders):
        raise NotOne("these are no parts of a ring of the web")
    return gone_round(web, whole_orders(web, tree, orders))
