"""Points 9.1 to 9.3, and 0.2 to 0.6 as far as they touch these."""

import itertools
import random
import unittest

from onceround.counts import up_to
from onceround.errors import BadKinds, BadWord, NoSuch, OnceError, TooMany
from onceround.far import letter_at, piece_at, place_of, ring_size, whole_ring
from onceround.primes import last_least, next_least
from onceround.rings import least_ring
from onceround.turns import is_least, least_turn
from onceround.webs import Web

GREAT = 10 ** 59
# A number of more figures than Python writes as a text without being told so.
VAST = 10 ** 6000
WRONG_KINDS = (0, 7, 8, 26, -1, -2, -6, -7, GREAT, -GREAT, VAST, -VAST)
STRANGE_SIGNS = ("g", "z", "A", "F", "`", " ", "\n", "\0", "0", "-", "\u00e4", "\u0430", "\ud800", "\U0001f600")
# Kinds, and the longest words of them of which all firsts are gone through.
GONE_THROUGH = ((1, 24), (2, 7), (3, 4), (4, 3), (5, 3), (6, 2))
ALL_SIZES = [(length, kinds) for kinds, longest in GONE_THROUGH for length in range(1, longest + 1)]


def words_in_order(length, kinds):
    return ["".join(signs) for signs in itertools.product("abcdef"[:kinds], repeat=length)]


def slow_least(word):
    return min(word[by:] + word[:by] for by in range(len(word)))


def slow_root(word):
    return next(word[:size] for size in range(1, len(word) + 1) if word[:size] * (len(word) // size) == word)


def ring_windows(text, length):
    return ["".join(text[(place + step) % len(text)] for step in range(length)) for place in range(len(text))]


def least_words(length, kinds):
    return [word for word in words_in_order(length, kinds) if word == slow_least(word)]


def slow_ring(first, kinds):
    """The roots of all least words that are not less than the first, put together."""
    return "".join(slow_root(word) for word in least_words(len(first), kinds) if word >= first)


def small_firsts():
    """All firsts of small lengths and kinds, each with its kinds and its ring."""
    for length, kinds in ALL_SIZES:
        least = least_words(length, kinds)
        for number, first in enumerate(least):
            yield first, kinds, "".join(slow_root(word) for word in least[number:])


FIRSTS = tuple(small_firsts())


def going_round(text, place, many):
    return "".join(text[(place + step) % len(text)] for step in range(many))


def chance_word(chance, length, kinds):
    """A word of any sort: any one, one that tells a part again and again, one with top letters ahead or behind."""
    letters = "abcdef"[:kinds]
    sort = chance.randrange(4)
    word = "".join(chance.choice(letters) for _ in range(length))
    if sort == 0:
        size = chance.choice([size for size in range(1, length + 1) if length % size == 0])
        return word[:size] * (length // size)
    size = chance.randrange(length)
    if sort == 1:
        return letters[-1] * size + word[size:]
    if sort == 2:
        return word[size:] + letters[-1] * size
    return word


def chance_first(chance, length, kinds):
    return least_turn(chance_word(chance, length, kinds))


class Case(unittest.TestCase):
    def refused(self, refusal, deed, *handed):
        with self.assertRaises(OnceError) as taken:
            deed(*handed)
        self.assertIs(type(taken.exception), refusal)
        self.assertEqual(refusal.__bases__, (OnceError,))

    def is_whole(self, found, expected):
        self.assertIs(type(found), int)
        self.assertEqual(found, expected)

    def is_text(self, found, expected):
        self.assertIs(type(found), str)
        self.assertEqual(found, expected)


class Whole(Case):
    """Point 9.1, and the size of a ring."""

    def test_examples(self):
        self.is_text(whole_ring("aaa", 2), "aaababbb")
        self.is_text(whole_ring("aab", 2), "aababbb")
        self.is_text(whole_ring("abb", 2), "abbb")
        self.is_text(whole_ring("bbb", 2), "b")
        self.is_text(whole_ring("aaaa", 2), "aaaabaabbababbbb")
        self.is_text(whole_ring("abab", 2), "ababbbb")
        self.is_text(whole_ring("aa", 3), "aabacbbcc")
        for first, size in (("aaa", 8), ("aab", 7), ("abb", 4), ("bbb", 1)):
            self.is_whole(ring_size(first, 2), size)

    def test_one_letter(self):
        for kinds in range(1, 7):
            for number, first in enumerate("abcdef"[:kinds]):
                self.is_text(whole_ring(first, kinds), "abcdef"[number:kinds])
                self.is_whole(ring_size(first, kinds), kinds - number)

    def test_top_letters_alone(self):
        for length in range(1, 25):
            for kinds in range(1, 7):
                top = "abcdef"[kinds - 1]
                self.is_text(whole_ring(top * length, kinds), top)
                self.is_whole(ring_size(top * length, kinds), 1)

    def test_every_first_of_small_sizes(self):
        for first, kinds, ring in FIRSTS:
            self.is_text(whole_ring(first, kinds), ring)
            self.is_whole(ring_size(first, kinds), len(ring))
            self.assertTrue(ring.startswith(slow_root(first)))

    def test_each_word_stands_just_once(self):
        for length, kinds in ALL_SIZES:
            told = [(slow_least(word), word) for word in words_in_order(length, kinds)]
            for first in least_words(length, kinds):
                expected = [word for least, word in told if least >= first]
                self.assertEqual(sorted(ring_windows(whole_ring(first, kinds), length)), expected)

    def test_begins_with_the_first(self):
        for first, kinds, ring in FIRSTS:
            self.is_text(piece_at(first, kinds, 0, len(first)), first)
            self.assertEqual(going_round(ring, 0, len(first)), first)

    def test_the_least_ring_of_all_words(self):
        sizes = [(length, kinds) for length in range(1, 9) for kinds in range(1, 7) if kinds ** length <= 64]
        for length, kinds in sizes:
            web = Web(words_in_order(length, kinds))
            self.is_text(whole_ring("a" * length, kinds), least_ring(web))

    def test_the_least_ring_of_the_words_of_each_first(self):
        for first, kinds, ring in FIRSTS:
            if len(ring) <= 64 and len(first) <= 8:
                self.is_text(whole_ring(first, kinds), least_ring(Web(ring_windows(ring, len(first)))))

    def test_longer_words(self):
        for first, kinds in (("a" * 12, 2), ("aabb" * 3, 2), ("a" * 7, 3), ("aab" * 2, 4), ("aaaaaa", 4), ("abcde", 5),
                             ("aaaa", 6), ("bcdef", 6), ("abababababab", 2)):
            self.is_text(whole_ring(first, kinds), slow_ring(first, kinds))

    def test_long_words(self):
        # Long rings are bounded by their first, so words of 24 letters have whole rings too.
        for first, kinds in (("a" + "b" * 23, 2), ("abbb" * 6, 2), ("abbbb" * 4 + "bbbb", 2), ("e" + "f" * 23, 6),
                             ("efffffff" * 3, 6), ("bccccccccccc" * 2, 3)):
            ring = whole_ring(first, kinds)
            self.assertEqual(len(ring), ring_size(first, kinds))
            found = ring_windows(ring, 24)
            self.assertEqual(len(set(found)), len(found))
            self.assertGreaterEqual(min(slow_least(word) for word in found), first)
            self.assertEqual(found[0], first)

    def test_great_sizes(self):
        for length in range(1, 25):
            for kinds in range(1, 7):
                self.is_whole(ring_size("a" * length, kinds), kinds ** length)
                if kinds > 1 and length > 1:
                    self.is_whole(ring_size("a" * (length - 1) + "b", kinds), kinds ** length - 1)
        self.is_whole(ring_size("a" * 24, 6), 4738381338321616896)
        # Of the words without the letter a none has a lesser least turn than b alone.
        self.is_whole(ring_size("b" * 24, 6), 5 ** 24)
        self.is_whole(ring_size("d" * 24, 6), 3 ** 24)

    def test_just_4096_letters(self):
        self.assertEqual(len(whole_ring("a" * 12, 2)), 4096)
        self.assertEqual(len(whole_ring("a" * 6, 4)), 4096)
        # b and c alone: 4096 words.
        self.assertEqual(len(whole_ring("b" * 12, 3)), 4096)
        self.assertEqual(len(whole_ring("c" * 6, 6)), 4096)

    def test_too_many(self):
        for first, kinds in (("a" * 13, 2), ("a" * 24, 2), ("a" * 7, 4), ("a" * 8, 3), ("aaaaaa", 5), ("aaaaa", 6),
                             ("a" * 24, 6), ("b" * 12, 4), ("b" * 13, 3), ("b" * 6, 6), ("ab" * 12, 6)):
            self.refused(TooMany, whole_ring, first, kinds)

    def test_about_4096_letters(self):
        # The first whose ring has the most letters below 4097, and the one ahead of it.
        for length, kinds in ((13, 2), (16, 2), (24, 2), (8, 3), (24, 3), (7, 4), (6, 5), (5, 6), (24, 6)):
            within = "abcdef"[kinds - 1] * length
            beyond = "a" * length
            while next_least(beyond, kinds) != within:
                middle = last_least(words_between(beyond, within, kinds), kinds)
                if middle == beyond:
                    middle = next_least(beyond, kinds)
                if ring_size(middle, kinds) <= 4096:
                    within = middle
                else:
                    beyond = middle
            self.assertEqual(len(whole_ring(within, kinds)), ring_size(within, kinds))
            self.refused(TooMany, whole_ring, beyond, kinds)


def words_between(one, two, kinds):
    """A word about midway between two."""
    number = [sum("abcdef".index(sign) * kinds ** place for place, sign in enumerate(reversed(word)))
              for word in (one, two)]
    rest, letters = (number[0] + number[1]) // 2, []
    for _ in one:
        letters.append("abcdef"[rest % kinds])
        rest //= kinds
    return "".join(reversed(letters))


class Places(Case):
    """Point 9.3, and letters and pieces of point 9.2."""

    def test_examples(self):
        self.assertEqual([letter_at("aaa", 2, place) for place in range(9)], list("aaababbba"))
        self.is_text(letter_at("aaa", 2, -1), "b")
        self.is_text(piece_at("aaa", 2, 6, 4), "bbaa")
        self.is_text(piece_at("aaa", 2, -2, 4), "bbaa")
        self.is_text(piece_at("aaa", 2, 0, 0), "")
        self.is_text(piece_at("abb", 2, 1, 10), "bbbabbbabb")
        self.is_text(piece_at("bbb", 2, 7, 5), "bbbbb")

    def test_each_letter_of_small_rings(self):
        for first, kinds, ring in FIRSTS:
            for place in range(-3, len(ring) + 3):
                self.is_text(letter_at(first, kinds, place), ring[place % len(ring)])

    def test_each_piece_of_small_rings(self):
        for first, kinds, ring in FIRSTS[::5]:
            for place in range(-2, len(ring) + 2, 3):
                for many in (0, 1, 2, len(first), 2 * len(first) + 1):
                    self.is_text(piece_at(first, kinds, place, many), going_round(ring, place, many))

    def test_pieces_that_go_round(self):
        for first, kinds, ring in FIRSTS:
            if len(ring) <= 200:
                for place in {0, 1, len(ring) // 2, len(ring) - 1, -1}:
                    for many in {len(ring) - 1, len(ring), min(len(ring) + 1, 200), min(2 * len(ring) + 1, 200), 200}:
                        self.is_text(piece_at(first, kinds, place, many), going_round(ring, place, many))

    def test_far_places(self):
        for first, kinds, ring in FIRSTS[::11]:
            for place in (GREAT, GREAT - 1, -GREAT, -GREAT - 1, VAST, -VAST, len(ring) * GREAT, -len(ring) * GREAT - 1,
                          len(ring), 2 * len(ring), -len(ring), -len(ring) - 1, 1000003, -1000003):
                self.is_text(letter_at(first, kinds, place), ring[place % len(ring)])
                self.is_text(piece_at(first, kinds, place, 7), going_round(ring, place, 7))

    def test_how_many_letters(self):
        for first, kinds, ring in (("aaa", 2, "aaababbb"), ("aaaa", 6, None), ("a" * 24, 6, None), ("a", 1, "a"),
                                   ("b" * 24, 2, "b"), ("a" * 12, 2, None)):
            for place in (0, 5, -5, GREAT, -GREAT):
                for many in (0, 1, 2, 24, 199, 200):
                    found = piece_at(first, kinds, place, many)
                    self.assertIs(type(found), str)
                    self.assertEqual(len(found), many)
                    if ring is not None:
                        self.assertEqual(found, going_round(ring, place, many))

    def test_one_letter_is_a_piece(self):
        chance = random.Random(931)
        for _ in range(200):
            length, kinds = chance.randint(1, 24), chance.randint(1, 6)
            first = chance_first(chance, length, kinds)
            place = chance.randrange(-GREAT, GREAT)
            self.is_text(letter_at(first, kinds, place), piece_at(first, kinds, place, 1))

    def test_too_many_letters(self):
        for first, kinds in (("aaa", 2), ("a" * 24, 6), ("a", 1), ("bb", 2)):
            for place in (0, 3, -1, GREAT, VAST):
                for many in (201, 202, 5000, GREAT, VAST):
                    self.refused(TooMany, piece_at, first, kinds, place, many)
                for many in (-1, -2, -200, -201, -GREAT, -VAST):
                    self.refused(NoSuch, piece_at, first, kinds, place, many)

    def test_the_root_of_each_least_word(self):
        # From its place on the letters of the least word stand, whole; top letters alone end with the ring.
        for length, kinds in ALL_SIZES:
            told = [slow_least(word) for word in words_in_order(length, kinds)]
            for first in least_words(length, kinds)[::3]:
                for least in least_words(length, kinds)[:-1]:
                    if least >= first:
                        place = len([turn for turn in told if first <= turn < least])
                        self.is_text(piece_at(first, kinds, place, length), least)
                        self.is_whole(place_of(first, kinds, least), place)
                size = len([turn for turn in told if turn >= first])
                top = "abcdef"[kinds - 1] * length
                self.is_text(piece_at(first, kinds, size - length, length), top)
                self.is_whole(place_of(first, kinds, top), (size - length) % size)


class Words(Case):
    """The places of words, of point 9.2."""

    def test_examples(self):
        for place, word in enumerate(("aaa", "aab", "aba", "bab", "abb", "bbb", "bba", "baa")):
            self.is_whole(place_of("aaa", 2, word), place)
        self.is_whole(place_of("abb", 2, "bbb"), 1)
        self.is_whole(place_of("abb", 2, "bab"), 3)
        self.is_whole(place_of("bbb", 2, "bbb"), 0)
        self.is_whole(place_of("a", 1, "a"), 0)

    def test_every_word_of_small_rings(self):
        for first, kinds, ring in FIRSTS:
            for place, word in enumerate(ring_windows(ring, len(first))):
                self.is_whole(place_of(first, kinds, word), place)

    def test_words_that_are_none_of_the_firsts(self):
        for length, kinds in ALL_SIZES:
            told = [(word, slow_least(word)) for word in words_in_order(length, kinds)]
            for first in least_words(length, kinds)[::4]:
                for word, least in told:
                    if least < first:
                        self.refused(NoSuch, place_of, first, kinds, word)

    def test_longer_words(self):
        for first, kinds in (("a" * 10, 2), ("aabbaabbab", 2), ("a" * 6, 3), ("acacbb", 3), ("aaaaa", 4), ("aaaa", 6)):
            first = slow_least(first)
            ring = slow_ring(first, kinds)
            for place, word in enumerate(ring_windows(ring, len(first))):
                self.is_whole(place_of(first, kinds, word), place)


class Long(Case):
    """Words of up to 24 letters: letters, pieces and places that fit together."""

    def test_the_ends_of_the_rings(self):
        for length in range(1, 25):
            for kinds in range(2, 7):
                first, top = "a" * length, "abcdef"[kinds - 1]
                size = kinds ** length
                self.is_text(piece_at(first, kinds, 0, length + 1), "a" * length + "b")
                self.is_text(piece_at(first, kinds, size - length, length), top * length)
                self.is_text(piece_at(first, kinds, -length - 1, 2 * length), going_back(top, length))
                self.is_whole(place_of(first, kinds, first), 0)
                self.is_whole(place_of(first, kinds, top * length), size - length)
                if length > 1:
                    self.is_whole(place_of(first, kinds, top + "a" * (length - 1)), size - 1)
                    self.is_whole(place_of(first, kinds, "a" * (length - 1) + "b"), 1)

    def test_places_of_words_lead_to_the_words(self):
        chance = random.Random(921)
        for kinds in range(1, 7):
            for length in (24, 24, 24, 23, 18, 16):
                for _ in range(4):
                    word = chance_word(chance, length, kinds)
                    firsts = ["a" * length, chance_first(chance, length, kinds), least_turn(word)]
                    for first in firsts:
                        if first <= least_turn(word):
                            place = place_of(first, kinds, word)
                            self.assertIs(type(place), int)
                            self.assertIn(place, range(ring_size(first, kinds)))
                            self.is_text(piece_at(first, kinds, place, length), word)
                        else:
                            self.refused(NoSuch, place_of, first, kinds, word)

    def test_words_of_places_lead_to_the_places(self):
        chance = random.Random(922)
        for kinds in range(1, 7):
            for _ in range(15):
                length = chance.choice((24, 24, 22, 19, 13))
                first = chance.choice(("a" * length, chance_first(chance, length, kinds)))
                size = ring_size(first, kinds)
                for place in {0, size - 1, chance.randrange(size), chance.randrange(size)}:
                    self.is_whole(place_of(first, kinds, piece_at(first, kinds, place, length)), place)

    def test_pieces_side_by_side(self):
        chance = random.Random(923)
        for kinds in range(1, 7):
            for _ in range(3):
                first = chance.choice(("a" * 24, chance_first(chance, 24, kinds)))
                size = ring_size(first, kinds)
                place = chance.randrange(-size, size)
                piece = piece_at(first, kinds, place, 200)
                self.is_text(piece_at(first, kinds, place, 90) + piece_at(first, kinds, place + 90, 110), piece)
                for step in (0, 1, 57, 150, 199):
                    self.is_text(letter_at(first, kinds, place + step), piece[step])
                    self.is_text(letter_at(first, kinds, place + step + size * 10 ** 30), piece[step])
                for step in (0, 33, 176):
                    word = piece[step:step + 24]
                    self.is_whole(place_of(first, kinds, word), (place + step) % size)

    def test_turns_of_one_word(self):
        # A word has as many turns as its root has letters; each has its own place.
        for word, kinds in (("aabb" * 6, 2), ("ab" * 12, 2), ("abc" * 8, 3), ("afff" * 6, 6), ("a" + "f" * 23, 6),
                            ("aaffffff" * 3, 6), ("e" * 23 + "f", 6), ("ef" * 12, 6)):
            for first in ("a" * 24, least_turn(word)):
                turns = sorted({word[by:] + word[:by] for by in range(24)})
                places = {place_of(first, kinds, turn) for turn in turns}
                self.assertEqual(len(places), len(turns))
                for turn in turns[::3]:
                    self.is_text(piece_at(first, kinds, place_of(first, kinds, turn), 24), turn)

    def test_where_least_words_begin(self):
        chance = random.Random(924)
        for kinds in range(2, 7):
            for _ in range(12):
                least = chance_first(chance, 24, kinds)
                if least != "abcdef"[kinds - 1] * 24:
                    place = up_to(least, kinds) - len(slow_root(least))
                    self.is_whole(place_of("a" * 24, kinds, least), place)
                    self.is_text(piece_at("a" * 24, kinds, place, 24), least)
                    later = next_least(least, kinds)
                    self.is_text(letter_at("a" * 24, kinds, up_to(least, kinds)), later[0])


def going_back(top, length):
    """The letters from length + 1 ahead of the end of a ring of all words on, twice the length of them."""
    below = "abcdef"["abcdef".index(top) - 1]
    return (below + top * length + "a" * length)[:2 * length]


class Refused(Case):
    ASKED = (
        (ring_size, ()), (whole_ring, ()), (letter_at, (0,)), (letter_at, (-GREAT,)), (piece_at, (0, 3)),
        (piece_at, (GREAT, 0)), (piece_at, (0, 201)), (piece_at, (0, -1)), (place_of, ("a",)), (place_of, ("",)),
        (place_of, ("x",)), (place_of, ("a" * 25,)), (place_of, ("ab",)),
    )

    def test_kinds(self):
        for deed, handed in self.ASKED:
            for kinds in WRONG_KINDS:
                for first in ("a", "aab", "ba", "", "x", "a" * 25, "g"):
                    self.refused(BadKinds, deed, first, kinds, *handed)

    def test_firsts_that_are_no_words(self):
        for deed, handed in self.ASKED:
            for kinds in (1, 2, 5, 6):
                for first in ("", "a" * 25, "a" * 26, "a" * 5000):
                    self.refused(BadWord, deed, first, kinds, *handed)
                for sign in STRANGE_SIGNS + tuple("abcdef"[kinds:]):
                    for first in (sign, "aa" + sign, sign * 3, "a" * 23 + sign):
                        self.refused(BadWord, deed, first, kinds, *handed)

    def test_firsts_that_are_no_least_words(self):
        for deed, handed in self.ASKED:
            for first in ("ba", "aba", "baa", "bbba", "abaab", "b" * 23 + "a", "ab" * 11 + "aa"):
                self.refused(BadWord, deed, first, 2, *handed)
                self.refused(BadWord, deed, first, 6, *handed)

    def test_every_word_that_is_no_least_word(self):
        for length, kinds in ((2, 2), (3, 3), (5, 2), (2, 6), (6, 2)):
            for word in words_in_order(length, kinds):
                if word != slow_least(word):
                    self.assertFalse(is_least(word))
                    for deed, handed in ((ring_size, ()), (whole_ring, ()), (letter_at, (0,)), (piece_at, (0, 1)),
                                         (place_of, (word,))):
                        self.refused(BadWord, deed, word, kinds, *handed)

    def test_words_that_are_none(self):
        for first, kinds in (("aaa", 2), ("bbb", 2), ("a", 1), ("a" * 24, 6), ("b", 6)):
            for word in ("", "a" * 25, "a" * 5000, "g", "A", first[1:] + "g", first[1:] + "X"):
                self.refused(BadWord, place_of, first, kinds, word)
            for sign in STRANGE_SIGNS + tuple("abcdef"[kinds:]):
                self.refused(BadWord, place_of, first, kinds, sign * len(first))

    def test_words_of_another_number_of_letters(self):
        for size in range(1, 25):
            for other in range(1, 25):
                if other != size:
                    self.refused(BadWord, place_of, "a" * size, 3, "c" * other)
                    # Though the word would be none of the first's, too.
                    self.refused(BadWord, place_of, "b" * size, 3, "a" * other)

    def test_words_that_are_none_of_the_firsts(self):
        self.refused(NoSuch, place_of, "aab", 2, "aaa")
        self.refused(NoSuch, place_of, "abb", 2, "baa")
        self.refused(NoSuch, place_of, "abb", 2, "aba")
        self.refused(NoSuch, place_of, "b", 6, "a")
        self.refused(NoSuch, place_of, "f" * 24, 6, "f" * 23 + "e")
        self.refused(NoSuch, place_of, "b" * 24, 6, "f" * 23 + "a")
        self.refused(NoSuch, place_of, "a" * 23 + "b", 6, "a" * 24)

    def test_whole_rings_are_refused_behind_the_others(self):
        self.refused(BadKinds, whole_ring, "a" * 24, 7)
        self.refused(BadWord, whole_ring, "a" * 23 + "f", 5)
        self.refused(BadWord, whole_ring, "a" * 22 + "ba", 6)
        self.refused(TooMany, whole_ring, "a" * 24, 6)


if __name__ == "__main__":
    unittest.main()
