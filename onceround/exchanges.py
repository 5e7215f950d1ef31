"""Stage 10: exchanges of a ring, the one that leads back, and one ring led to another."""

from onceround.errors import BadDeed, NotOne
from onceround.rings import is_ring
from onceround.webs import begin_of
from onceround.words import windows


# The pieces at the places 0 to m of a ring of m letters: behind the last place one is at the first piece again.
def pieces_met(web, ring):
    if not is_ring(web, ring):
        raise NotOne("the text is no ring of the web, told from its least word")
    met = [begin_of(word) for word in windows(ring, web.length, True)]
    return met + met[:1]


def places_from(met, piece, start):
    return [place for place in range(start, len(met)) if met[place] == piece]


def is_exchange(web, ring, deed):
    met = pieces_met(web, ring)
    a = deed[0]
    b = deed[1]
    c = deed[2]
    d = deed[3]
    if a < 1 or b <= a or c < b or d <= c or d >= len(met):
        return False
    return met[a] == met[c] and met[b] == met[d]


def exchange(web, ring, deed):
    if not is_exchange(web, ring, deed):
        raise BadDeed("the deed is no exchange of the ring")
    first = ring[deed[0]:deed[1]]
    middle = ring[deed[1]:deed[2]]
    last = ring[deed[2]:deed[3]]
    return ring[:deed[0]] + last + middle + first + ring[deed[3]:]


def back_deed(deed):
    return (deed[0], deed[0] + deed[3] - deed[2], deed[3] - deed[1] + deed[0], deed[3])


def all_exchanges(web, ring):
    met = pieces_met(web, ring)
    found = []
    for a in range(1, len(met)):
        for b in range(a + 1, len(met)):
            for c in places_from(met, met[a], b):
                found.extend([(a, b, c, d) for d in places_from(met, met[b], c + 1)])
    return found


def walked(web, ring, deeds):
    if not is_ring(web, ring):
        raise NotOne("the text is no ring of the web, told from its least word")
    rings = [ring]
    for deed in deeds:
        rings.append(exchange(web, rings[-1], deed))
    return rings


# The exchange behind which the ring has the same letters as the goal for one more place, or some more.
def deed_toward(web, ring, goal):
    met = pieces_met(web, ring)
    gone = windows(ring, web.length, True)
    sought = windows(goal, web.length, True)
    a = [place for place in range(len(gone)) if gone[place] != sought[place]][0]
    c = gone.index(sought[a])
    # Some piece up to c is met again behind c: else the goal, once gone by the word at c, could not come back.
    b = [place for place in range(a + 1, c + 1) if places_from(met, met[place], c + 1) != []][0]
    return (a, b, c, places_from(met, met[b], c + 1)[0])


def led(web, one, two):
    if not is_ring(web, one) or not is_ring(web, two):
        raise NotOne("the text is no ring of the web, told from its least word")
    deeds = []
    ring = one
    while ring != two:
        deed = deed_toward(web, ring, two)
        deeds.append(deed)
        ring = exchange(web, ring, deed)
    return deeds
