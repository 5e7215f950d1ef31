"""Points 3.3 and 4.1 to 4.4, and 0.2 to 0.6 as far as they touch these."""

import itertools
import unittest

from onceround.errors import NoRing, NoSuch, NotOne, OnceError
from onceround.none import why_no_ring, why_no_row
from onceround.primes import leasts
from onceround.rings import (
    closed, is_ring, is_row, is_turned_ring, least_ring, least_row, row_at, told_ring,
)
from onceround.turns import root
from onceround.webs import Web

GREAT = 10 ** 59
# A number of more figures than Python writes as a text without being told so.
VAST = 10 ** 6000

# Length, kinds, and how many words at most: all webs of these are gone through.
SMALL = ((1, 6, 6), (2, 2, 4), (2, 3, 9), (2, 4, 4), (3, 2, 8), (4, 2, 5), (8, 2, 1))


def texts_of(size, kinds):
    return ["".join(signs) for signs in itertools.product("abcdef"[:kinds], repeat=size)]


def ring_windows(text, length):
    return ["".join(text[(place + step) % len(text)] for step in range(length)) for place in range(len(text))]


def row_windows(text, length):
    return [text[place:place + length] for place in range(len(text) - length + 1)]


def grouped(texts, windows_of, length):
    """From each set of unlike windows to the texts, ascending, that have just these."""
    found = {}
    for text in texts:
        seen = windows_of(text, length)
        if len(set(seen)) == len(seen):
            found.setdefault(tuple(sorted(seen)), []).append(text)
    return found


def small_webs():
    """All small webs, each with all of its turned rings and all of its rows, found by going through all texts."""
    for length, kinds, most in SMALL:
        for size in range(1, most + 1):
            rings = grouped(texts_of(size, kinds), ring_windows, length)
            rows = grouped(texts_of(size + length - 1, kinds), row_windows, length)
            for words in itertools.combinations(texts_of(length, kinds), size):
                yield words, rings.get(words, []), rows.get(words, [])


WEBS = tuple(small_webs())


def told(words, turned_rings):
    return [text for text in turned_rings if ring_windows(text, len(words[0]))[0] == words[0]]


def all_turns(text):
    return [text[by:] + text[:by] for by in range(len(text))]


# Rings of webs of many sorts, each told from the least word, with the length of the words.
RINGS = (
    ("a", 1), ("a", 3), ("f", 8), ("abcdef", 1), ("acf", 1), ("ab", 2), ("ab", 3), ("ab", 8), ("abc", 8), ("aab", 2),
    ("aabb", 2), ("aabb", 3), ("aabbc", 4), ("aaababbb", 3), ("aabacbbcc", 2), ("aaaabaabbababbbb", 4), ("abcdef", 5),
    ("".join(root(word) for word in leasts(6, 2)), 6), ("".join(root(word) for word in leasts(3, 4)), 3),
)


def web_of(ring, length):
    return Web(ring_windows(ring, length))


def near_misses(ring):
    """Texts with a letter more, fewer or another one, two letters exchanged, from the end, twice, without letters."""
    for place in range(len(ring) + 1):
        for letter in "abf":
            yield ring[:place] + letter + ring[place:]
    for place in range(len(ring)):
        yield ring[:place] + ring[place + 1:]
        for letter in "abcf":
            yield ring[:place] + letter + ring[place + 1:]
    for one, two in itertools.combinations(range(min(len(ring), 16)), 2):
        yield ring[:one] + ring[two] + ring[one + 1:two] + ring[one] + ring[two + 1:]
    yield ring[::-1]
    yield from (ring * 2, ring * 3, "", "c" * len(ring), "d" * 200, (ring * 200)[:200])


class Case(unittest.TestCase):
    def refused(self, refusal, deed, *handed):
        with self.assertRaises(OnceError) as taken:
            deed(*handed)
        self.assertIs(type(taken.exception), refusal)
        return taken.exception

    def refused_for(self, paper, deed, web):
        found = self.refused(NoRing, deed, web).paper
        self.assertIs(type(found), tuple)
        self.assertIs(type(found[1]), tuple)
        self.assertEqual(found, paper)


class Rings(Case):
    """Point 4.1."""

    def test_told_examples(self):
        web = Web(["aa", "ab", "ba", "bb"])
        self.assertIs(is_ring(web, "aabb"), True)
        self.assertIs(is_ring(web, "abba"), False)
        self.assertIs(is_turned_ring(web, "abba"), True)
        self.assertEqual(told_ring(web, "abba"), "aabb")
        self.assertEqual(told_ring(web, "bbaa"), "aabb")
        self.assertIs(is_turned_ring(web, "abab"), False)

    def test_each_turn_of_a_ring(self):
        for ring, length in RINGS:
            web = web_of(ring, length)
            for turn in all_turns(ring):
                with self.subTest(ring=ring, length=length, turn=turn):
                    self.assertIs(is_turned_ring(web, turn), True)
                    self.assertIs(is_ring(web, turn), turn == ring)
                    self.assertEqual(told_ring(web, turn), ring)

    def test_near_misses(self):
        for ring, length in RINGS:
            web = web_of(ring, length)
            for text in near_misses(ring):
                with self.subTest(ring=ring, length=length, text=text):
                    seen = ring_windows(text, length)
                    fits = sorted(seen) == list(web.words)
                    self.assertIs(is_turned_ring(web, text), fits)
                    self.assertIs(is_ring(web, text), fits and seen[0] == web.words[0])
                    if fits:
                        self.assertEqual(told_ring(web, text), text[seen.index(web.words[0]):]
                                         + text[:seen.index(web.words[0])])
                    else:
                        self.refused(NotOne, told_ring, web, text)

    def test_all_texts_of_small_webs(self):
        for words, turned_rings, rows in WEBS[:2000:7]:
            web = Web(words)
            rings = told(words, turned_rings)
            for size in (len(words) - 1, len(words), len(words) + 1):
                for text in texts_of(min(size, 5), 3):
                    self.assertIs(is_turned_ring(web, text), text in turned_rings)
                    self.assertIs(is_ring(web, text), text in rings)

    def test_rings_of_small_webs(self):
        for words, turned_rings, rows in WEBS:
            web = Web(words)
            rings = told(words, turned_rings)
            for text in turned_rings:
                self.assertIs(is_turned_ring(web, text), True)
                self.assertIs(is_ring(web, text), text in rings)
                self.assertIn(told_ring(web, text), rings)
                self.assertIn(told_ring(web, text), all_turns(text))

    def test_the_ring_of_another_web(self):
        self.assertIs(is_turned_ring(Web(["aa", "ab", "ba"]), "aabb"), False)
        self.assertIs(is_turned_ring(Web(["ab", "ba"]), "aa"), False)
        self.assertIs(is_turned_ring(Web(["aaa"]), "aaa"), False)
        self.assertIs(is_turned_ring(Web(["ab", "ba"]), "abab"), False)
        self.refused(NotOne, told_ring, Web(["ab"]), "ab")
        self.refused(NotOne, told_ring, Web(["ab"]), "a")

    def test_texts_without_letters(self):
        for ring, length in RINGS:
            web = web_of(ring, length)
            self.assertIs(is_ring(web, ""), False)
            self.assertIs(is_turned_ring(web, ""), False)
            self.assertIs(is_row(web, ""), False)
            self.refused(NotOne, told_ring, web, "")
            self.refused(NotOne, row_at, web, "", 0)
            self.refused(NotOne, closed, web, "")


class Rows(Case):
    """Points 4.2 and 4.3."""

    def test_is_row_examples(self):
        web = Web(["aa", "ab", "ba", "bb"])
        for text in ("aabba", "abbaa", "bbaab", "baabb"):
            self.assertIs(is_row(web, text), True)
        for text in ("", "a", "aabb", "aabbaa", "ababa", "aabbb", "aabbc"):
            self.assertIs(is_row(web, text), False)
        self.assertIs(is_row(Web(["ab"]), "ab"), True)
        self.assertIs(is_row(Web(["ab"]), "ba"), False)
        self.assertIs(is_row(Web(["a", "c"]), "ca"), True)
        self.assertIs(is_row(Web(["abcdefab"]), "abcdefa"), False)

    def test_rows_of_small_webs(self):
        for words, turned_rings, rows in WEBS:
            web = Web(words)
            for text in rows:
                self.assertIs(is_row(web, text), True)
                for wrong in (text + "a", text[:-1], text[1:], "f" + text, text[:-1] + "f", text * 2):
                    seen = row_windows(wrong, len(words[0]))
                    self.assertIs(is_row(web, wrong), sorted(seen) == list(words))

    def test_all_texts_of_small_webs(self):
        for words, turned_rings, rows in WEBS[::11]:
            size = len(words) + len(words[0]) - 1
            if size <= 5:
                for text in texts_of(size - 1, 3) + texts_of(size, 3) + texts_of(size + 1, 3):
                    self.assertIs(is_row(Web(words), text), text in rows)

    def test_where_there_is_a_ring_each_row_ends_where_it_begins(self):
        for words, turned_rings, rows in WEBS:
            size = len(words)
            size_of_piece = len(words[0]) - 1
            if turned_rings:
                self.assertTrue(all(row[:size_of_piece] == row[size:] for row in rows))
                self.assertEqual({row[:size_of_piece] for row in rows}, {word[:-1] for word in words})
            elif rows:
                self.assertEqual(len({(row[:size_of_piece], row[size:]) for row in rows}), 1)
                self.assertNotEqual(rows[0][:size_of_piece], rows[0][size:])

    def test_row_at_each_place(self):
        for ring, length in RINGS:
            web = web_of(ring, length)
            for place in range(len(ring)):
                with self.subTest(ring=ring, length=length, place=place):
                    row = row_at(web, ring, place)
                    around = "".join(ring[(place + step) % len(ring)] for step in range(len(ring) + length - 1))
                    self.assertEqual(row, around)
                    self.assertIs(is_row(web, row), True)
                    seen = ring_windows(ring, length)
                    self.assertEqual(row_windows(row, length), seen[place:] + seen[:place])
                    self.assertEqual(closed(web, row), ring)

    def test_row_at_examples(self):
        web = Web(["aa", "ab", "ba", "bb"])
        self.assertEqual([row_at(web, "aabb", place) for place in range(4)], ["aabba", "abbaa", "bbaab", "baabb"])
        self.assertEqual(row_at(Web(["f" * 8]), "f", 0), "f" * 8)
        self.assertEqual(row_at(Web(["aba", "bab"]), "ab", 1), "baba")
        self.assertEqual(row_at(Web(["a", "b", "c"]), "abc", 1), "bca")

    def test_places_below_nought_and_beyond_the_last(self):
        for ring, length in RINGS:
            web = web_of(ring, length)
            for place in (-1, -2, -len(ring), len(ring), len(ring) + 1, 2 * len(ring), GREAT, -GREAT, VAST, -VAST):
                self.refused(NoSuch, row_at, web, ring, place)

    def test_no_ring_goes_ahead_of_no_such_place(self):
        for ring, length in RINGS:
            web = web_of(ring, length)
            for text in [turn for turn in all_turns(ring) if turn != ring] + [ring + "a", ring[:-1], ring * 2, "d"]:
                for place in (0, len(ring) - 1, -1, len(ring), GREAT, -VAST):
                    self.refused(NotOne, row_at, web, text, place)
        self.refused(NotOne, row_at, Web(["ab"]), "ab", 0)

    def test_small_webs_closed(self):
        for words, turned_rings, rows in WEBS:
            web = Web(words)
            rings = told(words, turned_rings)
            for row in rows:
                with self.subTest(words=words, row=row):
                    if turned_rings:
                        ring = closed(web, row)
                        self.assertIn(ring, rings)
                        self.assertIn(ring, all_turns(row[:len(words)]))
                        self.assertIn(row, [row_at(web, ring, place) for place in range(len(ring))])
                    else:
                        self.refused(NotOne, closed, web, row)

    def test_as_many_rows_as_rings_and_places(self):
        for words, turned_rings, rows in WEBS:
            if turned_rings:
                web = Web(words)
                made = [row_at(web, ring, place) for ring in told(words, turned_rings) for place in range(len(ring))]
                self.assertEqual(sorted(made), rows)

    def test_closed_examples(self):
        web = Web(["aa", "ab", "ba", "bb"])
        for row in ("aabba", "abbaa", "bbaab", "baabb"):
            self.assertEqual(closed(web, row), "aabb")
        self.assertEqual(closed(Web(["aaa"]), "aaa"), "a")
        self.assertEqual(closed(Web(["aba", "bab"]), "baba"), "ab")
        self.assertEqual(closed(Web(["b", "c", "f"]), "fcb"), "bfc")

    def test_rows_that_do_not_end_where_they_begin(self):
        for words, row in ((["ab"], "ab"), (["ab", "bc"], "abc"), (["aa", "ab"], "aab"), (["aab", "aba"], "aaba"),
                           (["abcdefab"], "abcdefab")):
            self.assertIs(is_row(Web(words), row), True)
            self.refused(NotOne, closed, Web(words), row)

    def test_texts_that_are_no_row(self):
        web = Web(["aa", "ab", "ba", "bb"])
        for text in ("aabb", "abba", "aabbaa", "ababa", "aaaaa", "a", "", "bbbbb", "aabbaabba", "d" * 200):
            self.refused(NotOne, closed, web, text)
        self.refused(NotOne, closed, Web(["aaa"]), "a")
        self.refused(NotOne, closed, Web(["aaa"]), "aaaa")


class Least(Case):
    """Point 4.4."""

    def test_all_small_webs(self):
        for words, turned_rings, rows in WEBS:
            web = Web(words)
            with self.subTest(words):
                if turned_rings:
                    self.assertEqual(least_ring(web), min(told(words, turned_rings)))
                    self.assertEqual(least_ring(web), min(turned_rings))
                else:
                    self.refused_for(why_no_ring(web), least_ring, web)
                if rows:
                    self.assertEqual(least_row(web), min(rows))
                else:
                    self.refused_for(why_no_row(web), least_row, web)

    def test_there_is_one_where_why_tells_none(self):
        for words, turned_rings, rows in WEBS:
            self.assertIs(why_no_ring(Web(words)) is None, turned_rings != [])
            self.assertIs(why_no_row(Web(words)) is None, rows != [])

    def test_one_word(self):
        for word in ("a", "f", "aa", "fff", "a" * 8):
            self.assertEqual(least_ring(Web([word])), word[0])
            self.assertEqual(least_row(Web([word])), word)
        for word in ("ab", "ba", "aab", "abcdefab", "aaaaaaab"):
            self.refused_for(("uneven", (min(word[:-1], word[1:]),)), least_ring, Web([word]))
            self.assertEqual(least_row(Web([word])), word)

    def test_words_of_one_letter(self):
        for words in (["f", "a"], ["c", "b", "e"], list("fedcba")):
            self.assertEqual(least_ring(Web(words)), "".join(sorted(words)))
            self.assertEqual(least_row(Web(words)), "".join(sorted(words)))

    def test_rings_shorter_than_their_words(self):
        for ring in ("ab", "abc", "aab", "aabb", "abcdef", "ac"):
            for length in range(len(ring), 9):
                web = web_of(ring, length)
                self.assertEqual(least_ring(web), ring)
                self.assertEqual(least_row(web), (ring * 9)[:len(ring) + length - 1])

    def test_all_words_of_a_length(self):
        # The least ring of all words is put together of the roots of the least words, ascending.
        for length, kinds in ((6, 2), (5, 2), (4, 2), (3, 4), (3, 3), (2, 6), (2, 5), (8, 1), (1, 6)):
            ring = "".join(root(word) for word in leasts(length, kinds))
            web = Web(texts_of(length, kinds))
            self.assertEqual(least_ring(web), ring)
            self.assertEqual(least_row(web), (ring * 8)[:len(ring) + length - 1])

    def test_64_words_in_one_ring(self):
        # Each word goes on in one way alone, so that the web has just one ring.
        ring = "aaaaaaabcdefaabbccddeeffacebdfbacadaeafbcbdbebfcdcecfdedfefabcfa"
        self.assertEqual(len(set(ring_windows(ring, 8))), 64)
        web = web_of(ring[20:] + ring[:20], 8)
        self.assertEqual(least_ring(web), told_ring(web, ring))
        self.assertEqual(least_row(web), row_at(web, told_ring(web, ring), 0))

    def test_64_words_and_no_ring(self):
        words = texts_of(6, 2)
        row = least_row(Web(words[:62] + words[63:]))
        self.assertIs(is_row(Web(words[:62] + words[63:]), row), True)
        self.assertEqual((row[:5], row[-5:]), ("bbbba", "bbbbb"))
        self.refused_for(("uneven", ("bbbba",)), least_ring, Web(words[:62] + words[63:]))
        two_parts = [text.replace("b", "c").replace("a", "d") for text in texts_of(5, 2)] + texts_of(5, 2)
        for deed in (least_ring, least_row):
            self.refused_for(("apart", tuple(texts_of(4, 2))), deed, Web(two_parts))

    def test_a_row_that_must_not_take_the_least_letter_first(self):
        # By ba the way would end at a with bc and cb left.
        self.assertEqual(least_row(Web(["ab", "ba", "bc", "cb"])), "abcba")
        self.assertEqual(least_ring(Web(["ab", "ba", "bc", "cb"])), "abcb")
        self.assertEqual(least_row(Web(["ba", "bc", "cb"])), "bcba")
        self.assertEqual(least_row(Web(["ba", "bb"])), "bba")

    def test_the_papers_of_rings_and_rows(self):
        for words, ring, row in (
            (["ab", "cb"], ("uneven", ("a",)), ("uneven", ("a", "c"))),
            (["aa", "bb"], ("apart", ("a",)), ("apart", ("a",))),
            (["aa", "bc"], ("uneven", ("b",)), ("apart", ("a",))),
        ):
            self.refused_for(ring, least_ring, Web(words))
            self.refused_for(row, least_row, Web(words))

    def test_any_order_of_the_words_and_nothing_changes(self):
        handed = ["bb", "ba", "ab", "aa"]
        for words in itertools.permutations(handed):
            self.assertEqual(least_ring(Web(words)), "aabb")
            self.assertEqual(least_row(Web(words)), "aabba")
        web = Web(handed)
        for step in range(2):
            self.assertEqual((least_ring(web), least_row(web), told_ring(web, "bbaa")), ("aabb", "aabba", "aabb"))
        self.assertEqual((handed, web.words, web.length), (["bb", "ba", "ab", "aa"], ("aa", "ab", "ba", "bb"), 2))


if __name__ == "__main__":
    unittest.main()
