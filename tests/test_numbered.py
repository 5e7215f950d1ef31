"""Points 6.1 to 6.3, and 0.2 to 0.6 as far as they touch these."""

import itertools
import math
import random
import unittest

from onceround.errors import NoSuch, NotOne, OnceError
from onceround.none import row_ends, why_no_ring, why_no_row
from onceround.numbered import (
    ring_by, ring_count, ring_number, row_by, row_count, row_number, rows_from, ways_on,
)
from onceround.rings import is_ring, is_row, least_ring, least_row, row_at
from onceround.trees import tree_count
from onceround.webs import Web

GREAT = 10 ** 59
# A number of more figures than Python writes as a text without being told so.
VAST = 10 ** 6000

# Length, kinds, and how many words at most: all webs of these are gone through.
SMALL = ((1, 6, 6), (2, 2, 4), (2, 3, 9), (2, 4, 4), (3, 2, 8), (4, 2, 4), (8, 2, 1))


def texts_of(size, kinds):
    return ["".join(signs) for signs in itertools.product("abcdef"[:kinds], repeat=size)]


def ring_windows(text, length):
    return ["".join(text[(place + step) % len(text)] for step in range(length)) for place in range(len(text))]


def row_windows(text, length):
    return [text[place:place + length] for place in range(len(text) - length + 1)]


def grouped(texts, windows_of, length):
    """From each set of unlike windows to the texts, ascending, that have just these."""
    found = {}
    for text in texts:
        seen = windows_of(text, length)
        if len(set(seen)) == len(seen):
            found.setdefault(tuple(sorted(seen)), []).append(text)
    return found


def small_webs():
    """All small webs, with all rings told from the least word and all rows, found by going through all texts."""
    for length, kinds, most in SMALL:
        for size in range(1, most + 1):
            turned = grouped(texts_of(size, kinds), ring_windows, length)
            rows = grouped(texts_of(size + length - 1, kinds), row_windows, length)
            for words in itertools.combinations(texts_of(length, kinds), size):
                rings = [text for text in turned.get(words, []) if ring_windows(text, length)[0] == words[0]]
                yield words, rings, rows.get(words, [])


WEBS = tuple(small_webs())


def pieces_of(words):
    return sorted({word[:-1] for word in words} | {word[1:] for word in words})


def is_way_on(order, one, other):
    at = one
    for word in order:
        if word[:-1] != at:
            return False
        at = word[1:]
    return at == other


def slow_ways(words, one, other):
    return sum(is_way_on(order, one, other) for order in itertools.permutations(words))


def walked_ways(left, at, other):
    """All ways on, as tuples, each in the order of its words, found by going on word by word."""
    if not left:
        return [()] if at == other else []
    found = []
    for word in sorted(left):
        if word[:-1] == at:
            rest = [more for more in left if more != word]
            found += [(word,) + order for order in walked_ways(rest, word[1:], other)]
    return found


def closed_walk(chance, length, kinds, least, most):
    """The words of a random ring, each once."""
    while True:
        text = "".join(chance.choice("abcdef"[:kinds]) for _ in range(chance.randint(least, most)))
        words = ring_windows(text, length)
        if len(set(words)) == len(words):
            return words


def all_count(length, kinds):
    """How many rings of all words of a length there are, as is long known."""
    return math.factorial(kinds) ** (kinds ** (length - 1)) // kinds ** length


# Lengths and kinds of which there are at most 64 words.
WHOLE = [(length, kinds) for length in range(1, 9) for kinds in range(1, 7) if kinds ** length <= 64]


class Case(unittest.TestCase):
    def refused(self, refusal, deed, *handed):
        with self.assertRaises(OnceError) as taken:
            deed(*handed)
        self.assertIs(type(taken.exception), refusal)
        self.assertEqual(refusal.__bases__, (OnceError,))

    def is_whole(self, found, expected):
        self.assertIs(type(found), int)
        self.assertEqual(found, expected)

    def is_text(self, found, expected):
        self.assertIs(type(found), str)
        self.assertEqual(found, expected)


class Ways(Case):
    """Point 6.2."""

    def test_no_words(self):
        for text in ("", "a", "f", "ab", "abcdefa", "zz"):
            self.is_whole(ways_on([], text, text), 1)
            self.is_whole(ways_on((), text, text), 1)
            for other in ("", "b", "ba", "aa"):
                if other != text:
                    self.is_whole(ways_on([], text, other), 0)
                    self.is_whole(ways_on((), other, text), 0)

    def test_one_word(self):
        self.is_whole(ways_on(["ab"], "a", "b"), 1)
        for one, other in (("b", "a"), ("a", "a"), ("b", "b"), ("a", "c"), ("c", "b"), ("", ""), ("ab", "ab"),
                           ("c", "c"), ("a", ""), ("", "b")):
            self.is_whole(ways_on(["ab"], one, other), 0)
        self.is_whole(ways_on(["aa"], "a", "a"), 1)
        self.is_whole(ways_on(["aa"], "b", "b"), 0)
        self.is_whole(ways_on(["aa"], "a", "b"), 0)
        self.is_whole(ways_on(["d"], "", ""), 1)
        self.is_whole(ways_on(["d"], "d", "d"), 0)
        self.is_whole(ways_on(["abcdefab"], "abcdefa", "bcdefab"), 1)

    def test_examples(self):
        self.is_whole(ways_on(["ab", "bc"], "a", "c"), 1)
        self.is_whole(ways_on(["ab", "ba"], "a", "a"), 1)
        self.is_whole(ways_on(["aa", "ab", "ba", "bb"], "a", "a"), 2)
        self.is_whole(ways_on(["a", "b", "c"], "", ""), 6)
        self.is_whole(ways_on(["ab", "ac", "ba", "ca"], "a", "a"), 2)
        self.is_whole(ways_on(["ab", "ac", "ba", "ca", "ad"], "a", "d"), 2)

    def test_texts_that_no_word_begins_or_ends_with(self):
        words = ["aa", "ab", "ba", "bb"]
        for text in ("", "c", "f", "aa", "ab", "A", "z", "a" * 200):
            self.is_whole(ways_on(words, text, text), 0)
            self.is_whole(ways_on(words, "a", text), 0)
            self.is_whole(ways_on(words, text, "a"), 0)
            self.is_whole(ways_on(["ab", "bd"], "a", text), 0)
            self.is_whole(ways_on(["ab", "bd"], text, "d"), 0)

    def test_words_that_hang_apart(self):
        self.is_whole(ways_on(["aa", "bb"], "a", "a"), 0)
        self.is_whole(ways_on(["ab", "ba", "cd", "dc"], "a", "a"), 0)
        self.is_whole(ways_on(["ab", "cd", "dc"], "a", "b"), 0)
        self.is_whole(ways_on(["ab", "ba", "cc"], "b", "b"), 0)
        self.is_whole(ways_on(["ab", "cc"], "a", "b"), 0)
        self.is_whole(ways_on(["cc"], "a", "a"), 0)
        self.is_whole(ways_on(["cd", "dc"], "b", "b"), 0)

    def test_against_all_orders_of_few_words(self):
        for length, kinds, most in ((1, 3, 3), (2, 2, 4), (2, 3, 4), (3, 2, 4)):
            texts = texts_of(length - 1, kinds) + ["f", "ff", ""]
            for size in range(1, most + 1):
                for words in itertools.combinations(texts_of(length, kinds), size):
                    counts = {}
                    for order in itertools.permutations(words):
                        if is_way_on(order, order[0][:-1], order[-1][1:]):
                            ends = (order[0][:-1], order[-1][1:])
                            counts[ends] = counts.get(ends, 0) + 1
                    for one in texts:
                        for other in texts:
                            self.is_whole(ways_on(words, one, other), counts.get((one, other), 0))

    def test_against_all_orders_of_more_words(self):
        chance = random.Random(621)
        above = 0
        for length, kinds in ((2, 2), (2, 3), (2, 4), (3, 2), (3, 3), (4, 2), (1, 6)):
            for _ in range(8):
                words = closed_walk(chance, length, kinds, 1, 7)
                for drop in (0, 1, 2):
                    order = words[:len(words) - drop]
                    if order:
                        one, other = order[0][:-1], order[-1][1:]
                        shuffled = sorted(order, key=lambda word: word[::-1])
                        expected = slow_ways(order, one, other)
                        self.is_whole(ways_on(shuffled, one, other), expected)
                        self.is_whole(ways_on(tuple(order), one, other), expected)
                        self.is_whole(ways_on(order, other, one), slow_ways(order, other, one))
                        above += expected > 1
        self.assertGreater(above, 20)

    def test_against_walks_of_many_words(self):
        chance = random.Random(622)
        for length, kinds in ((2, 4), (2, 5), (3, 2), (3, 3), (4, 2), (5, 2)):
            for _ in range(6):
                words = closed_walk(chance, length, kinds, 8, 11)
                for order in (words, words[:-1], words[2:]):
                    one, other = order[0][:-1], order[-1][1:]
                    self.is_whole(ways_on(order, one, other), len(walked_ways(order, one, other)))

    def test_orders_of_words_and_their_kinds_count_for_nothing(self):
        chance = random.Random(623)
        words = texts_of(2, 4)
        for _ in range(10):
            chance.shuffle(words)
            self.is_whole(ways_on(words, "b", "b"), 4 * all_count(2, 4))
            self.is_whole(ways_on(tuple(words), "b", "b"), 4 * all_count(2, 4))

    def test_64_words(self):
        for length, kinds in ((6, 2), (3, 4)):
            words = texts_of(length, kinds)
            for piece in (words[0][:-1], words[37][:-1], words[-1][:-1]):
                self.is_whole(ways_on(words, piece, piece), kinds * all_count(length, kinds))
                self.is_whole(ways_on(words, piece, words[20][1:]), 0)
            word = words[22]
            rest = [other for other in words if other != word]
            self.is_whole(ways_on(rest, word[1:], word[:-1]), all_count(length, kinds))
        ring = least_ring(Web(texts_of(6, 2)))
        words = ring_windows(ring, 8)
        self.assertEqual(len(words), 64)
        self.is_whole(ways_on(words, words[9][:-1], words[9][:-1]), 1)
        self.is_whole(ways_on(words[1:], words[1][:-1], words[0][:-1]), 1)


class Rings(Case):
    """Points 6.1 and 6.3."""

    def test_examples(self):
        web = Web(texts_of(3, 2))
        self.is_whole(ring_count(web), 2)
        self.is_text(ring_by(web, 0), "aaababbb")
        self.is_text(ring_by(web, 1), "aaabbbab")
        self.is_whole(ring_number(web, "aaababbb"), 0)
        self.is_whole(ring_number(web, "aaabbbab"), 1)

    def test_small_webs(self):
        for words, rings, rows in WEBS:
            web = Web(words)
            with self.subTest(words):
                self.is_whole(ring_count(web), len(rings))
                for number, ring in enumerate(rings):
                    self.is_text(ring_by(web, number), ring)
                    self.is_whole(ring_number(web, ring), number)
                for number in (-1, len(rings), len(rings) + 1):
                    self.refused(NoSuch, ring_by, web, number)

    def test_trees_times_orders(self):
        for words, rings, rows in WEBS[::3]:
            if rings:
                orders = 1
                for piece in pieces_of(words):
                    orders *= math.factorial(sum(word[:-1] == piece for word in words) - 1)
                for piece in pieces_of(words):
                    self.assertEqual(ring_count(Web(words)), orders * tree_count(Web(words), piece))

    def test_all_words_of_a_length(self):
        for length, kinds in WHOLE:
            web = Web(texts_of(length, kinds))
            count = all_count(length, kinds)
            with self.subTest(length=length, kinds=kinds):
                self.is_whole(ring_count(web), count)
                self.is_text(ring_by(web, 0), least_ring(web))
                last = None
                for number in sorted({0, 1, 2, count // 7, count // 3, count // 2, count - 2, count - 1}):
                    if 0 <= number < count:
                        ring = ring_by(web, number)
                        self.assertIs(is_ring(web, ring), True)
                        self.is_whole(ring_number(web, ring), number)
                        self.assertTrue(last is None or last < ring)
                        last = ring
                self.refused(NoSuch, ring_by, web, count)
                self.refused(NoSuch, ring_by, web, -1)

    def test_numbers_side_by_side(self):
        for length, kinds in ((5, 2), (3, 3), (2, 4)):
            words = texts_of(length, kinds)
            web = Web(words)
            every = walked_ways(words[1:], words[0][1:], words[0][:-1]) if (length, kinds) == (5, 2) else None
            for start in (0, 100, 1000):
                told = [ring_by(web, number) for number in range(start, start + 12)]
                self.assertEqual(told, sorted(set(told)))
                if every:
                    found = [words[0] + "".join(word[-1] for word in order) for order in every[start:start + 12]]
                    self.assertEqual(told, [text[:len(words)] for text in found])
                    self.assertEqual(len(every), 2048)

    def test_random_webs_with_a_ring(self):
        chance = random.Random(631)
        for length, kinds, least, most in ((2, 4, 6, 12), (3, 2, 5, 8), (3, 3, 8, 13), (4, 2, 6, 12), (2, 6, 8, 13)):
            for _ in range(5):
                words = sorted(closed_walk(chance, length, kinds, least, most))
                web = Web(words)
                every = walked_ways(words[1:], words[0][1:], words[0][:-1])
                rings = sorted((words[0] + "".join(word[-1] for word in order))[:len(words)] for order in every)
                self.is_whole(ring_count(web), len(rings))
                step = len(rings) // 40 + 1
                for number in list(range(0, len(rings), step)) + [len(rings) - 1]:
                    self.is_text(ring_by(web, number), rings[number])
                    self.is_whole(ring_number(web, rings[number]), number)
                self.refused(NoSuch, ring_by, web, len(rings))

    def test_rings_shorter_than_words(self):
        for ring, length in (("a", 8), ("ab", 8), ("abc", 8), ("aab", 5), ("aabab", 7)):
            web = Web(ring_windows(ring, length))
            self.is_whole(ring_count(web), 1)
            self.is_text(ring_by(web, 0), ring)
            self.is_whole(ring_number(web, ring), 0)
            self.is_whole(row_count(web), len(ring))
            rows = sorted(row_at(web, ring, place) for place in range(len(ring)))
            self.assertEqual([row_by(web, number) for number in range(len(ring))], rows)

    def test_no_ring(self):
        for words in (["ab"], ["ab", "bc"], ["aa", "bb"], ["ab", "cb"], ["ab", "ba", "cd", "dc"], ["aab", "aba"]):
            web = Web(words)
            self.is_whole(ring_count(web), 0)
            for number in (0, 1, -1, GREAT, -GREAT):
                self.refused(NoSuch, ring_by, web, number)
            for text in ("", "a", "ab", "abc", words[0], words[-1]):
                self.refused(NotOne, ring_number, web, text)

    def test_numbers_that_are_none(self):
        for words in (["a"], ["aa", "ab", "ba", "bb"], list("abcdef"), texts_of(3, 3)):
            for number in (-1, -2, ring_count(Web(words)), GREAT, -GREAT, VAST, -VAST):
                self.refused(NoSuch, ring_by, Web(words), number)

    def test_texts_that_are_no_ring_so_told(self):
        web = Web(texts_of(3, 2))
        for ring in ("aaababbb", "aaabbbab"):
            for by in range(1, 8):
                self.refused(NotOne, ring_number, web, ring[by:] + ring[:by])
            for text in (ring + "a", ring[:-1], ring + ring, ring + "aa", ring[:-1] + "a", ring[:-1] + "c"):
                self.refused(NotOne, ring_number, web, text)
        for text in ("", "a", "aaa", "abababab", "aaabbbba", "d" * 200, "aaababbba"):
            self.refused(NotOne, ring_number, web, text)

    def test_all_texts_of_a_size(self):
        web = Web(["aa", "ab", "ba", "bb", "bc", "cb"])
        rings = [text for text in texts_of(6, 3) if sorted(ring_windows(text, 2)) == list(web.words)
                 and ring_windows(text, 2)[0] == "aa"]
        self.assertGreater(len(rings), 1)
        for text in texts_of(6, 3):
            if text in rings:
                self.is_whole(ring_number(web, text), rings.index(text))
            else:
                self.refused(NotOne, ring_number, web, text)


class Rows(Case):
    """Points 6.1 and 6.3."""

    def test_examples(self):
        web = Web(["aa", "ab", "ba", "bb"])
        self.is_whole(row_count(web), 4)
        self.assertEqual([row_by(web, number) for number in range(4)], ["aabba", "abbaa", "baabb", "bbaab"])
        self.is_whole(row_number(web, "baabb"), 2)
        self.is_whole(rows_from(web, "a"), 2)
        web = Web(["ab", "ac", "ba", "ca", "ad"])
        self.is_whole(row_count(web), 2)
        self.is_whole(rows_from(web, "a"), 2)
        for piece in "bcd":
            self.is_whole(rows_from(web, piece), 0)
        self.is_text(row_by(web, 0), "abacad")
        self.is_text(row_by(web, 1), "acabad")
        self.is_whole(row_number(web, "acabad"), 1)

    def test_small_webs(self):
        for words, rings, rows in WEBS:
            web = Web(words)
            with self.subTest(words):
                self.is_whole(row_count(web), len(rows))
                for piece in pieces_of(words):
                    self.is_whole(rows_from(web, piece), sum(row[:len(piece)] == piece for row in rows))
                for number, row in enumerate(rows):
                    self.is_text(row_by(web, number), row)
                    self.is_whole(row_number(web, row), number)
                for number in (-1, len(rows), len(rows) + 1):
                    self.refused(NoSuch, row_by, web, number)

    def test_as_many_as_rings_times_words(self):
        seen = [0, 0, 0]
        for words, rings, rows in WEBS:
            web = Web(words)
            if rings:
                self.assertEqual(row_count(web), ring_count(web) * len(words))
                for piece in pieces_of(words):
                    out = sum(word[:-1] == piece for word in words)
                    self.assertEqual(rows_from(web, piece), ring_count(web) * out)
            elif rows:
                ends = row_ends(web)
                self.assertEqual(row_count(web), ways_on(words, ends[0], ends[1]))
                self.assertEqual(rows_from(web, ends[0]), row_count(web))
                self.assertEqual(rows_from(web, ends[1]), 0)
            else:
                self.assertEqual((ring_count(web), row_count(web)), (0, 0))
            seen[0 if rings else 1 if rows else 2] += 1
        self.assertGreater(min(seen), 50)

    def test_counts_and_papers_tell_the_same(self):
        for words, rings, rows in WEBS:
            web = Web(words)
            self.assertIs(ring_count(web) > 0, why_no_ring(web) is None)
            self.assertIs(row_count(web) > 0, why_no_row(web) is None)

    def test_all_words_of_a_length(self):
        for length, kinds in WHOLE:
            words = texts_of(length, kinds)
            web = Web(words)
            count = all_count(length, kinds) * len(words)
            with self.subTest(length=length, kinds=kinds):
                self.is_whole(row_count(web), count)
                self.is_text(row_by(web, 0), least_row(web))
                for piece in (words[0][:-1], words[-1][:-1]):
                    self.is_whole(rows_from(web, piece), all_count(length, kinds) * kinds)
                last = None
                for number in sorted({0, 1, count // 5, count // 2, count - 2, count - 1}):
                    if 0 <= number < count:
                        row = row_by(web, number)
                        self.assertIs(is_row(web, row), True)
                        self.is_whole(row_number(web, row), number)
                        self.assertTrue(last is None or last < row)
                        last = row
                self.refused(NoSuch, row_by, web, count)
                self.refused(NoSuch, row_by, web, -1)

    def test_random_webs_without_a_ring(self):
        chance = random.Random(632)
        for length, kinds, least, most in ((2, 4, 7, 12), (3, 2, 6, 8), (3, 3, 8, 13), (4, 2, 7, 12), (2, 6, 8, 13)):
            for _ in range(6):
                words = closed_walk(chance, length, kinds, least, most)[:-1]
                one, other = words[0][:-1], words[-1][1:]
                web = Web(words)
                if one != other:
                    every = walked_ways(words, one, other)
                    rows = [one + "".join(word[-1] for word in order) for order in every]
                    self.assertEqual(rows, sorted(rows))
                    self.is_whole(row_count(web), len(rows))
                    self.is_whole(ring_count(web), 0)
                    for piece in pieces_of(words):
                        self.is_whole(rows_from(web, piece), len(rows) if piece == one else 0)
                    step = len(rows) // 40 + 1
                    for number in list(range(0, len(rows), step)) + [len(rows) - 1]:
                        self.is_text(row_by(web, number), rows[number])
                        self.is_whole(row_number(web, rows[number]), number)
                    self.refused(NoSuch, row_by, web, len(rows))

    def test_63_words(self):
        words = texts_of(6, 2)
        for left_out in (words[1], words[30], words[62]):
            rest = [word for word in words if word != left_out]
            web = Web(rest)
            count = all_count(6, 2)
            self.is_whole(ring_count(web), 0)
            self.is_whole(row_count(web), count)
            self.is_whole(rows_from(web, left_out[1:]), count)
            self.is_whole(rows_from(web, left_out[:-1]), 0)
            self.is_text(row_by(web, 0), least_row(web))
            for number in (0, 1, count // 2, count - 1):
                self.is_whole(row_number(web, row_by(web, number)), number)
            self.refused(NoSuch, row_by, web, count)

    def test_one_word(self):
        for word in ("a", "f", "ab", "ba", "aaa", "abcdefab", "a" * 8):
            web = Web([word])
            ring = int(len(set(word)) == 1)
            self.is_whole(ring_count(web), ring)
            self.is_whole(row_count(web), 1)
            self.is_whole(rows_from(web, word[:-1]), 1)
            if not ring:
                self.is_whole(rows_from(web, word[1:]), 0)
            self.is_text(row_by(web, 0), word)
            self.is_whole(row_number(web, word), 0)
            self.refused(NoSuch, row_by, web, 1)

    def test_words_of_one_letter(self):
        for words in ("a", "bf", "ace", "abcdef"):
            web = Web(list(words))
            orders = ["".join(order) for order in itertools.permutations(words)]
            self.is_whole(row_count(web), len(orders))
            self.is_whole(rows_from(web, ""), len(orders))
            self.is_whole(ring_count(web), len(orders) // len(words))
            for number, row in enumerate(orders):
                self.is_text(row_by(web, number), row)
                self.is_whole(row_number(web, row), number)
                if row[0] == words[0]:
                    self.is_text(ring_by(web, number), row)
                    self.is_whole(ring_number(web, row), number)
                else:
                    self.refused(NotOne, ring_number, web, row)

    def test_neither(self):
        for words in (["aa", "bb"], ["ab", "cb"], ["ab", "cd"], ["ab", "ac"], ["ab", "ba", "cd", "dc"],
                      ["ab", "cc"], ["ab", "ba", "cd"]):
            web = Web(words)
            self.is_whole(ring_count(web), 0)
            self.is_whole(row_count(web), 0)
            for piece in pieces_of(words):
                self.is_whole(rows_from(web, piece), 0)
            for number in (0, 1, -1, GREAT):
                self.refused(NoSuch, row_by, web, number)
            for text in ("", "a", "ab", "abc", "aabb", words[0]):
                self.refused(NotOne, row_number, web, text)

    def test_the_web_has_no_such_piece(self):
        for words, wrong in ((["aa", "ab", "ba", "bb"], ("", "c", "aa", "A", "z" * 200)),
                             (["ab", "bc"], ("", "d", "ab")), (["a", "b"], ("a", "b", "aa")),
                             (["aa", "bb"], ("c", "")), (["abc"], ("a", "ac", "abc"))):
            for piece in wrong:
                self.refused(NoSuch, rows_from, Web(words), piece)

    def test_numbers_that_are_none(self):
        for words in (["a"], ["ab"], ["ab", "bc"], ["aa", "ab", "ba", "bb"], list("abcdef"), texts_of(3, 3)):
            for number in (-1, -2, row_count(Web(words)), GREAT, -GREAT, VAST, -VAST):
                self.refused(NoSuch, row_by, Web(words), number)

    def test_texts_that_are_no_row(self):
        web = Web(["aa", "ab", "ba", "bb"])
        for text in texts_of(5, 3) + texts_of(4, 2) + texts_of(6, 2) + ["", "a", "aabbaabba", "d" * 200]:
            if text in ("aabba", "abbaa", "baabb", "bbaab"):
                self.is_text(row_by(web, row_number(web, text)), text)
            else:
                self.refused(NotOne, row_number, web, text)
        for text in ("ab", "bc", "cba", "abcd", "aabc", "abca", ""):
            self.refused(NotOne, row_number, Web(["ab", "bc"]), text)


class Own(Case):
    """Point 0.4."""

    def test_words_stay(self):
        words = ["bb", "ab", "aa", "ba"]
        self.is_whole(ways_on(words, "a", "a"), 2)
        self.assertEqual(words, ["bb", "ab", "aa", "ba"])

    def test_the_web_stays(self):
        words = ["bb", "ab", "aa", "ba"]
        web = Web(words)
        kept = web.words
        ring_number(web, ring_by(web, 0))
        row_number(web, row_by(web, 3))
        rows_from(web, "a")
        self.assertIs(web.words, kept)
        self.assertEqual(web.words, ("aa", "ab", "ba", "bb"))
        self.assertEqual(words, ["bb", "ab", "aa", "ba"])

    def test_asked_again_it_tells_the_same(self):
        web = Web(texts_of(3, 2))
        other = Web(texts_of(2, 3))
        told = [row_by(web, number) for number in range(16)]
        for number in range(24):
            ring_by(other, number)
        self.assertEqual([row_by(web, number) for number in range(16)], told)


if __name__ == "__main__":
    unittest.main()
