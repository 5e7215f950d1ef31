"""Points 10.1 to 10.3, and 0.2 to 0.6 as far as they touch these."""

import itertools
import random
import unittest

from onceround.errors import BadDeed, NotOne, OnceError
from onceround.exchanges import all_exchanges, back_deed, exchange, is_exchange, led, walked
from onceround.numbered import ring_by, ring_count
from onceround.rings import is_ring
from onceround.webs import Web

GREAT = 10 ** 59
# A number of more figures than Python writes as a text without being told so.
VAST = 10 ** 6000
# Length, kinds, and how many words at most: all webs of these are gone through.
SMALL = ((1, 6, 6), (2, 2, 4), (2, 3, 9), (2, 4, 5), (3, 2, 8), (4, 2, 5), (8, 2, 1))
# Lengths and kinds of which there are at most 64 words.
WHOLE = [(length, kinds) for length in range(1, 9) for kinds in range(1, 7) if kinds ** length <= 64]


def texts_of(size, kinds):
    return ["".join(signs) for signs in itertools.product("abcdef"[:kinds], repeat=size)]


def going_round(text, place, many):
    return "".join(text[(place + step) % len(text)] for step in range(many))


def ring_windows(text, length):
    return [going_round(text, place, length) for place in range(len(text))]


def ringed_webs():
    """All small webs that have rings, with all these, told from the least word, found by going through all texts."""
    for length, kinds, most in SMALL:
        for size in range(1, most + 1):
            found = {}
            for text in texts_of(size, kinds):
                seen = ring_windows(text, length)
                if len(set(seen)) == size and seen[0] == min(seen):
                    found.setdefault(tuple(sorted(seen)), []).append(text)
            yield from found.items()


RINGED = tuple(ringed_webs())


def is_slow_exchange(ring, length, deed):
    a, b, c, d = deed
    if not 1 <= a < b <= c < d <= len(ring):
        return False
    piece = [going_round(ring, place, length - 1) for place in deed]
    return piece[0] == piece[2] and piece[1] == piece[3]


def slow_exchanges(ring, length):
    return [deed for deed in itertools.product(range(1, len(ring) + 1), repeat=4)
            if is_slow_exchange(ring, length, deed)]


def slow_exchange(ring, length, deed):
    """The words put in their new order, each of them beginning with the end of the one ahead of it."""
    a, b, c, d = deed
    words = ring_windows(ring, length)
    words[a:d] = words[c:d] + words[b:c] + words[a:b]
    for ahead, word in zip(words[-1:] + words, words):
        if ahead[1:] != word[:-1]:
            raise AssertionError((ring, deed))
    return "".join(word[0] for word in words)


def tuples_for(ring):
    """All tuples of places of a small ring, and some beyond; of a greater one those that don't descend."""
    if len(ring) <= 4:
        return itertools.product(range(len(ring) + 2), repeat=4)
    return itertools.combinations_with_replacement(range(-1, len(ring) + 3), 4)


def wrong_texts(ring):
    """Texts that are not the ring; most of them are no rings at all."""
    yield ""
    yield ring + ring
    yield ring[:-1]
    yield ring + ring[0]
    yield "f" * len(ring) + "e"
    yield "a" * 200
    for by in range(1, len(ring)):
        yield ring[by:] + ring[:by]


class Case(unittest.TestCase):
    def refused(self, refusal, deed, *handed):
        with self.assertRaises(OnceError) as taken:
            deed(*handed)
        self.assertIs(type(taken.exception), refusal)
        self.assertEqual(refusal.__bases__, (OnceError,))

    def is_text(self, found, expected):
        self.assertIs(type(found), str)
        self.assertEqual(found, expected)

    def are_texts(self, found, expected):
        self.assertIs(type(found), list)
        for text in found:
            self.assertIs(type(text), str)
        self.assertEqual(found, expected)

    def is_deed(self, found):
        self.assertIs(type(found), tuple)
        self.assertEqual([type(place) for place in found], [int] * 4)

    def are_deeds(self, found, expected):
        self.assertIs(type(found), list)
        for deed in found:
            self.is_deed(deed)
        self.assertEqual(found, expected)

    def leads(self, web, one, two):
        """Whether the told deeds lead from one ring to the other."""
        deeds = led(web, one, two)
        self.assertIs(type(deeds), list)
        self.assertLess(len(deeds), len(web.words))
        ring = one
        for deed in deeds:
            self.is_deed(deed)
            self.assertTrue(is_slow_exchange(ring, web.length, deed))
            ring = slow_exchange(ring, web.length, deed)
        self.assertEqual(ring, two)
        return deeds


class Exchanges(Case):
    """Point 10.1."""

    def test_examples(self):
        web = Web(["ab", "ac", "ba", "bc", "ca", "cb"])
        # The pieces at the places 0 to 6 of abacbc are a, b, a, c, b, c, a.
        self.are_deeds(all_exchanges(web, "abacbc"), [(1, 2, 4, 6), (1, 3, 4, 5)])
        self.is_text(exchange(web, "abacbc", (1, 2, 4, 6)), "abcacb")
        self.is_text(exchange(web, "abacbc", (1, 3, 4, 5)), "abcbac")
        self.assertIs(is_exchange(web, "abacbc", (1, 3, 4, 5)), True)
        self.assertIs(is_exchange(web, "abacbc", (1, 3, 4, 6)), False)

    def test_all_words_of_two_letters(self):
        web = Web(texts_of(3, 2))
        self.are_deeds(all_exchanges(web, "aaababbb"), [(2, 3, 4, 7)])
        self.is_text(exchange(web, "aaababbb", (2, 3, 4, 7)), "aaabbbab")

    def test_one_word(self):
        for word, ring in (("d", "d"), ("aa", "a"), ("ffffffff", "f")):
            web = Web([word])
            self.are_deeds(all_exchanges(web, ring), [])
            for deed in itertools.product(range(-1, 3), repeat=4):
                self.assertIs(is_exchange(web, ring, deed), False)
                self.refused(BadDeed, exchange, web, ring, deed)

    def test_words_of_one_letter(self):
        # There is one piece, so all places are fit; the least word stays at its place.
        web = Web(list("abcd"))
        self.are_deeds(all_exchanges(web, "abcd"), [
            (1, 2, 2, 3), (1, 2, 2, 4), (1, 2, 3, 4), (1, 3, 3, 4), (2, 3, 3, 4),
        ])
        self.is_text(exchange(web, "abcd", (1, 2, 2, 3)), "acbd")
        self.is_text(exchange(web, "abcd", (1, 2, 2, 4)), "acdb")
        self.is_text(exchange(web, "abcd", (1, 2, 3, 4)), "adcb")
        self.is_text(exchange(web, "abcd", (1, 3, 3, 4)), "adbc")
        self.is_text(exchange(web, "abcd", (2, 3, 3, 4)), "abdc")
        self.refused(BadDeed, exchange, web, "abcd", (0, 1, 1, 2))
        self.refused(BadDeed, exchange, web, "abcd", (3, 4, 4, 5))

    def test_up_to_the_end(self):
        # The piece at m is the one at 0.
        web = Web(["aa", "ab", "ac", "ba", "ca"])
        self.assertIs(is_exchange(web, "aabac", (1, 3, 3, 5)), True)
        self.is_text(exchange(web, "aabac", (1, 3, 3, 5)), "aacab")
        self.assertIs(is_exchange(web, "aabac", (1, 3, 3, 6)), False)

    def test_rings_shorter_than_their_words(self):
        web = Web(["abababab", "babababa"])
        self.are_deeds(all_exchanges(web, "ab"), [])
        self.assertIs(is_exchange(web, "ab", (1, 2, 2, 3)), False)

    def test_all_exchanges_of_small_webs(self):
        for words, rings in RINGED:
            web = Web(words)
            for ring in rings:
                self.are_deeds(all_exchanges(web, ring), slow_exchanges(ring, web.length))

    def test_all_tuples_of_small_webs(self):
        for words, rings in RINGED:
            web = Web(words)
            for ring in rings:
                for deed in tuples_for(ring):
                    expected = is_slow_exchange(ring, web.length, deed)
                    self.assertIs(is_exchange(web, ring, deed), expected)
                    if expected:
                        self.is_text(exchange(web, ring, deed), slow_exchange(ring, web.length, deed))

    def test_tuples_of_greater_webs(self):
        for words, rings in RINGED:
            if len(words) in (8, 9) and len(rings) > 1:
                web = Web(words)
                ring = rings[-1]
                expected = slow_exchanges(ring, web.length)
                found = [deed for deed in itertools.product(range(len(ring) + 2), repeat=4)
                         if is_exchange(web, ring, deed)]
                self.assertEqual(found, expected)
                break

    def test_what_comes_is_a_ring_of_the_web(self):
        for words, rings in RINGED:
            web = Web(words)
            for ring in rings:
                for deed in all_exchanges(web, ring):
                    found = exchange(web, ring, deed)
                    self.assertIn(found, rings)
                    self.assertNotEqual(found, ring)
                    self.is_text(found, slow_exchange(ring, web.length, deed))

    def test_great_webs(self):
        chance = random.Random(1011)
        for length, kinds in WHOLE:
            web = Web(texts_of(length, kinds))
            ring = ring_by(web, chance.randrange(ring_count(web)))
            deeds = all_exchanges(web, ring)
            self.assertEqual(deeds, sorted(set(deeds)))
            for deed in deeds[::97]:
                self.assertTrue(is_slow_exchange(ring, length, deed))
                self.is_text(exchange(web, ring, deed), slow_exchange(ring, length, deed))
            for _ in range(300):
                deed = tuple(sorted(chance.randrange(len(ring) + 2) for _ in range(4)))
                expected = is_slow_exchange(ring, length, deed)
                self.assertIs(is_exchange(web, ring, deed), expected)
                self.assertEqual(deed in deeds, expected)

    def test_deeds_that_are_none(self):
        web = Web(["ab", "ac", "ba", "bc", "ca", "cb"])
        for deed in (
            (0, 1, 2, 3), (1, 1, 4, 6), (1, 2, 1, 6), (1, 2, 4, 4), (1, 2, 4, 7), (1, 4, 2, 6), (2, 1, 4, 6),
            (6, 4, 2, 1), (0, 0, 0, 0), (-1, -2, -3, -4), (-4, -3, -2, -1), (-5, -4, -2, 0), (7, 8, 10, 12),
            (1, 2, 4, -1), (1, 2, 4, 0), (1, 2, -2, 6), (1, -4, 4, 6), (-5, 2, 4, 6), (1, 2, 3, 6), (1, 3, 4, 6),
            (1, 2, 4, 12), (1, 2, 10, 12),
        ):
            self.assertIs(is_exchange(web, "abacbc", deed), False)
            self.refused(BadDeed, exchange, web, "abacbc", deed)
            self.refused(BadDeed, walked, web, "abacbc", [deed])

    def test_vast_numbers(self):
        web = Web(["ab", "ac", "ba", "bc", "ca", "cb"])
        for number in (GREAT, -GREAT, VAST, -VAST):
            for place in range(4):
                deed = (1, 2, 4, 6)[:place] + (number,) + (1, 2, 4, 6)[place + 1:]
                self.assertIs(is_exchange(web, "abacbc", deed), False)
                self.refused(BadDeed, exchange, web, "abacbc", deed)
            for deed in ((number,) * 4, (number, number + 1, number + 3, number + 5)):
                self.assertIs(is_exchange(web, "abacbc", deed), False)
                self.refused(BadDeed, exchange, web, "abacbc", deed)

    def test_texts_that_are_no_rings_so_told(self):
        for words, rings in RINGED[::3]:
            web = Web(words)
            for text in wrong_texts(rings[-1]):
                if text not in rings:
                    self.refused(NotOne, all_exchanges, web, text)
                    for deed in ((1, 2, 2, 3), (0, 0, 0, 0), (GREAT, GREAT, -GREAT, VAST), (1, 2, 4, 6)):
                        self.refused(NotOne, is_exchange, web, text, deed)
                        self.refused(NotOne, exchange, web, text, deed)
                        self.refused(NotOne, walked, web, text, [deed])
                    self.refused(NotOne, walked, web, text, [])
                    self.refused(NotOne, walked, web, text, ())

    def test_webs_without_a_ring(self):
        for words in (["ab"], ["aa", "bb"], ["ab", "bc"], ["ab", "cb"]):
            web = Web(words)
            for text in ("", "a", "ab", "abc", "acb"):
                self.refused(NotOne, all_exchanges, web, text)
                self.refused(NotOne, is_exchange, web, text, (1, 2, 2, 3))
                self.refused(NotOne, exchange, web, text, (1, 2, 2, 3))
                self.refused(NotOne, walked, web, text, [])
                self.refused(NotOne, led, web, text, text)


class Back(Case):
    """Point 10.2."""

    def test_examples(self):
        self.assertEqual(back_deed((1, 2, 4, 6)), (1, 3, 5, 6))
        self.assertEqual(back_deed((1, 3, 4, 5)), (1, 2, 3, 5))
        self.assertEqual(back_deed((2, 3, 3, 9)), (2, 8, 8, 9))
        self.is_deed(back_deed((1, 2, 4, 6)))

    def test_leads_back(self):
        for words, rings in RINGED:
            web = Web(words)
            for ring in rings:
                for deed in all_exchanges(web, ring):
                    there = exchange(web, ring, deed)
                    back = back_deed(deed)
                    self.is_deed(back)
                    self.assertIs(is_exchange(web, there, back), True)
                    self.is_text(exchange(web, there, back), ring)
                    self.assertEqual(back_deed(back), deed)

    def test_great_webs(self):
        chance = random.Random(1021)
        for length, kinds in WHOLE:
            web = Web(texts_of(length, kinds))
            ring = ring_by(web, chance.randrange(ring_count(web)))
            for deed in all_exchanges(web, ring)[::61]:
                self.are_texts(walked(web, ring, [deed, back_deed(deed)]), [ring, exchange(web, ring, deed), ring])


class Walked(Case):
    def test_no_deeds(self):
        web = Web(["ab", "ac", "ba", "bc", "ca", "cb"])
        self.are_texts(walked(web, "abacbc", []), ["abacbc"])
        self.are_texts(walked(web, "abacbc", ()), ["abacbc"])
        self.are_texts(walked(Web(["aa"]), "a", []), ["a"])

    def test_some_deeds(self):
        web = Web(["ab", "ac", "ba", "bc", "ca", "cb"])
        deeds = [(1, 2, 4, 6), (1, 3, 5, 6), (1, 3, 4, 5)]
        self.are_texts(walked(web, "abacbc", deeds), ["abacbc", "abcacb", "abacbc", "abcbac"])
        self.are_texts(walked(web, "abacbc", tuple(deeds)), ["abacbc", "abcacb", "abacbc", "abcbac"])

    def test_long_walks(self):
        chance = random.Random(1012)
        for words, rings in RINGED[::9]:
            web = Web(words)
            ring, deeds, expected = rings[0], [], [rings[0]]
            for _ in range(5):
                going = slow_exchanges(ring, web.length)
                if going:
                    deeds.append(chance.choice(going))
                    ring = slow_exchange(ring, web.length, deeds[-1])
                    expected.append(ring)
            self.are_texts(walked(web, rings[0], deeds), expected)
            self.are_texts(walked(web, rings[0], tuple(deeds)), expected)
            self.are_texts(walked(web, ring, [back_deed(deed) for deed in reversed(deeds)]), expected[::-1])

    def test_one_among_them_is_none(self):
        web = Web(["ab", "ac", "ba", "bc", "ca", "cb"])
        deeds = [(1, 2, 4, 6), (1, 3, 5, 6), (1, 3, 4, 5)]
        for wrong in ((0, 1, 2, 3), (GREAT, GREAT, GREAT, GREAT), (1, 2, 3, 4), (-1, -2, -3, VAST)):
            for place in range(4):
                some = deeds[:place] + [wrong] + deeds[place:]
                self.refused(BadDeed, walked, web, "abacbc", some)
                self.refused(BadDeed, walked, web, "abacbc", tuple(some))

    def test_an_exchange_of_another_ring(self):
        web = Web(["ab", "ac", "ba", "bc", "ca", "cb"])
        # An exchange of the first ring that is none of the ring behind the first deed.
        self.assertIs(is_exchange(web, "abacbc", (1, 2, 4, 6)), True)
        self.refused(BadDeed, walked, web, "abacbc", [(1, 2, 4, 6), (1, 2, 4, 6)])
        # An exchange of the ring behind the first deed that is none of the first ring.
        self.assertIs(is_exchange(web, "abacbc", (1, 3, 5, 6)), False)
        self.are_texts(walked(web, "abacbc", [(1, 2, 4, 6), (1, 3, 5, 6)]), ["abacbc", "abcacb", "abacbc"])


class Led(Case):
    """Point 10.3."""

    def test_like_rings(self):
        for words, rings in RINGED:
            web = Web(words)
            for ring in rings[:3]:
                self.are_deeds(led(web, ring, ring), [])

    def test_all_pairs_of_small_webs(self):
        for words, rings in RINGED:
            web = Web(words)
            for one, two in itertools.product(rings, repeat=2):
                deeds = self.leads(web, one, two)
                self.assertEqual(deeds == [], one == two)

    def test_walked_comes_to_the_other_ring(self):
        for words, rings in RINGED[::5]:
            web = Web(words)
            for one in rings[:3]:
                for two in rings[-3:]:
                    found = walked(web, one, led(web, one, two))
                    self.assertEqual((found[0], found[-1]), (one, two))
                    self.assertTrue(set(found) <= set(rings))

    def test_great_webs(self):
        chance = random.Random(1031)
        for length, kinds in WHOLE:
            web = Web(texts_of(length, kinds))
            many = ring_count(web)
            numbers = [0, many - 1] + [chance.randrange(many) for _ in range(3)]
            rings = [ring_by(web, number) for number in numbers]
            for one in rings:
                for two in rings:
                    self.leads(web, one, two)

    def test_webs_of_64_words(self):
        for length, kinds in ((2, 6), (3, 4), (6, 2)):
            web = Web(texts_of(length, kinds))
            last = ring_count(web) - 1
            self.leads(web, ring_by(web, 0), ring_by(web, last))
            self.leads(web, ring_by(web, last), ring_by(web, 0))
        # Sixty-four words of more kinds than stand in each of them.
        text, words = long_walk(random.Random(1032), 3, 6, 64)
        web = Web(words)
        self.assertEqual(len(web.words), 64)
        many = ring_count(web)
        for number in (0, many // 3, many - 1):
            self.assertTrue(is_ring(web, text))
            self.leads(web, text, ring_by(web, number))
            self.leads(web, ring_by(web, number), text)

    def test_texts_that_are_no_rings_on_either_side(self):
        for words, rings in RINGED[::3]:
            web = Web(words)
            for text in wrong_texts(rings[0]):
                if text not in rings:
                    self.refused(NotOne, led, web, text, rings[0])
                    self.refused(NotOne, led, web, rings[0], text)
                    self.refused(NotOne, led, web, text, text)

    def test_rings_of_another_web(self):
        one, two = Web(["ab", "ac", "ba", "bc", "ca", "cb"]), Web(["aa", "ab", "ba", "bb"])
        self.refused(NotOne, led, one, "abacbc", "aabb")
        self.refused(NotOne, led, one, "aabb", "abacbc")
        self.refused(NotOne, led, two, "abacbc", "aabb")


def long_walk(chance, length, kinds, size):
    """A ring of so many unlike words, told from the least one, and its words: rounds put into one another."""
    while True:
        text, seen = "a" * (length - 1), []
        while len(seen) < size:
            going = [letter for letter in "abcdef"[:kinds] if text[-(length - 1):] + letter not in seen]
            if not going:
                break
            seen.append(text[-(length - 1):] + chance.choice(going))
            text += seen[-1][-1]
        if len(seen) == size and text.endswith("a" * (length - 1)):
            start = seen.index(min(seen))
            return text[start:size] + text[:start], seen


class Own(Case):
    def test_told_lists_are_the_askers_own(self):
        web = Web(["ab", "ac", "ba", "bc", "ca", "cb"])
        for deed, handed in ((all_exchanges, ("abacbc",)), (walked, ("abacbc", [(1, 2, 4, 6)])),
                             (led, ("abacbc", "abcacb"))):
            first, second = deed(web, *handed), deed(web, *handed)
            kept = list(second)
            first.clear()
            first.append("z")
            self.assertEqual(second, kept)
            self.assertEqual(deed(web, *handed), kept)
        self.assertEqual(web.words, ("ab", "ac", "ba", "bc", "ca", "cb"))

    def test_what_is_handed_in_stays(self):
        web = Web(["ab", "ac", "ba", "bc", "ca", "cb"])
        deeds = [(1, 2, 4, 6), (1, 3, 5, 6)]
        rings = walked(web, "abacbc", deeds)
        self.assertEqual(deeds, [(1, 2, 4, 6), (1, 3, 5, 6)])
        deeds.clear()
        self.assertEqual(rings, ["abacbc", "abcacb", "abacbc"])
        wrong = [(1, 2, 4, 6), (0, 0, 0, 0)]
        self.refused(BadDeed, walked, web, "abacbc", wrong)
        self.assertEqual(wrong, [(1, 2, 4, 6), (0, 0, 0, 0)])
        self.assertEqual(web.length, 2)


if __name__ == "__main__":
    unittest.main()
