"""Points 3.3 to 3.7, and 0.4 and 0.5 as far as they touch these."""

import itertools
import unittest

from onceround.errors import NoRing, OnceError
from onceround.none import row_ends, shows_no_ring, shows_no_row, why_no_ring, why_no_row
from onceround.webs import Web


def words_in_order(length, kinds):
    return ["".join(signs) for signs in itertools.product("abcdef"[:kinds], repeat=length)]


def small_webs():
    """All webs of some words, up to so many."""
    for length, kinds, most in ((1, 6, 6), (2, 2, 4), (2, 3, 9), (2, 4, 3), (3, 2, 8), (4, 2, 3), (8, 2, 1)):
        for size in range(1, most + 1):
            for words in itertools.combinations(words_in_order(length, kinds), size):
                yield words


SMALL = tuple(small_webs())


def slow_pieces(words):
    return sorted({word[:-1] for word in words} | {word[1:] for word in words})


def slow_excess(words, some):
    return sum(word[:-1] in some for word in words) - sum(word[1:] in some for word in words)


def row_pairs(words):
    """The pairs of the first and the last piece of all orders in which each word goes on from the one ahead."""
    found = set()
    reached = [(word[:-1], word[1:], frozenset(words) - {word}) for word in words]
    while reached:
        ahead = set()
        for first, last, left in reached:
            if not left:
                found.add((first, last))
            ahead |= {(first, word[1:], left - {word}) for word in left if word[:-1] == last}
        reached = sorted(ahead, key=repr)
    return found


PAIRS = {words: row_pairs(words) for words in SMALL}


def has_ring(words):
    return any(first == last for first, last in PAIRS[words])


def apart(words):
    """All that hangs together with the least piece, where that is not all."""
    found = {min(slow_pieces(words))}
    for step in words:
        for word in words:
            if word[:-1] in found or word[1:] in found:
                found |= {word[:-1], word[1:]}
    return None if found == set(slow_pieces(words)) else ("apart", tuple(sorted(found)))


def slow_why_no_ring(words):
    uneven = [piece for piece in slow_pieces(words) if slow_excess(words, [piece]) != 0]
    return ("uneven", (uneven[0],)) if uneven else apart(words)


def slow_why_no_row(words):
    above = [piece for piece in slow_pieces(words) if slow_excess(words, [piece]) > 0]
    return ("uneven", tuple(above)) if slow_excess(words, above) >= 2 else apart(words)


def right_made(words):
    found = slow_pieces(words)
    return [some for size in range(1, len(found) + 1) for some in itertools.combinations(found, size)]


class Case(unittest.TestCase):
    def is_paper(self, found, awaited):
        self.assertEqual(found, awaited)
        self.assertIs(type(found), tuple)
        self.assertIs(type(found[0]), str)
        self.assertIs(type(found[1]), tuple)

    def refused_rows(self, words):
        with self.assertRaises(OnceError) as taken:
            row_ends(Web(words))
        self.assertIs(type(taken.exception), NoRing)
        self.is_paper(taken.exception.paper, why_no_row(Web(words)))
        return taken.exception.paper


class Why(Case):
    """Points 3.4 and 3.6."""

    def test_a_ring(self):
        for words in (["a"], ["a", "c", "f"], ["aa"], ["ab", "ba"], ["aa", "ab", "ba", "bb"], ["aab", "aba", "baa"],
                      words_in_order(6, 2), words_in_order(3, 4), ["f" * 8], ["aba", "bab"]):
            self.assertIsNone(why_no_ring(Web(words)))
            self.assertIsNone(why_no_row(Web(words)))

    def test_a_row_and_no_ring(self):
        for words, piece in ((["ab"], "a"), (["ba"], "a"), (["ab", "bc"], "a"), (["cb", "bb"], "b"),
                             (["aa", "ab", "ba", "bb", "cb"], "b"), (["aab", "abc", "bcd"], "aa"),
                             (["ff", "fe"], "e"), (words_in_order(6, 2)[:62] + ["bbbbbb"], "bbbba")):
            self.is_paper(why_no_ring(Web(words)), ("uneven", (piece,)))
            self.assertIsNone(why_no_row(Web(words)))

    def test_neither_for_uneven_pieces(self):
        for words, piece, above in (
            (["ab", "ac"], "a", ("a",)), (["ab", "cb"], "a", ("a", "c")), (["ba", "ca", "da"], "a", ("b", "c", "d")),
            (["ab", "cd"], "a", ("a", "c")), (["aa", "ba", "ca", "cb"], "a", ("c",)),
            (["abc", "bcd", "bca", "fbc"], "ab", ("ab", "fb")), (["fed", "fec", "feb"], "eb", ("fe",)),
        ):
            self.is_paper(why_no_ring(Web(words)), ("uneven", (piece,)))
            self.is_paper(why_no_row(Web(words)), ("uneven", above))

    def test_neither_for_parts_that_lie_apart(self):
        for words, together in (
            (["aa", "bb"], ("a",)), (["ab", "ba", "cc"], ("a", "b")), (["ff", "bb", "bc", "cb"], ("b", "c")),
            (["aaa", "bbb"], ("aa",)), (["abc", "bca", "cab", "ddd"], ("ab", "bc", "ca")),
            (["a" * 8, "f" * 8], ("a" * 7,)),
        ):
            self.is_paper(why_no_ring(Web(words)), ("apart", together))
            self.is_paper(why_no_row(Web(words)), ("apart", together))

    def test_uneven_goes_ahead_of_apart(self):
        # A row in one part and a ring in the other: uneven as for rings, apart as for rows.
        for words, piece, together in ((["aa", "bc"], "b", ("a",)), (["ab", "cc"], "a", ("a", "b")),
                                       (["dd", "ba", "ac"], "b", ("a", "b", "c"))):
            self.is_paper(why_no_ring(Web(words)), ("uneven", (piece,)))
            self.is_paper(why_no_row(Web(words)), ("apart", together))

    def test_all_small_webs_told_as_the_point_says(self):
        for words in SMALL:
            web = Web(words)
            with self.subTest(words):
                self.assertEqual(why_no_ring(web), slow_why_no_ring(words))
                self.assertEqual(why_no_row(web), slow_why_no_row(words))

    def test_none_just_where_there_is_one(self):
        for words in SMALL:
            with self.subTest(words):
                self.assertIs(why_no_ring(Web(words)) is None, has_ring(words))
                self.assertIs(why_no_row(Web(words)) is None, PAIRS[words] != set())

    def test_why_is_shown(self):
        for words in SMALL:
            web = Web(words)
            for why, shows in ((why_no_ring(web), shows_no_ring), (why_no_row(web), shows_no_row)):
                if why is not None:
                    self.is_paper(why, (why[0], tuple(why[1])))
                    self.assertIs(shows(web, why), True)

    def test_64_words_in_two_parts(self):
        words = [text.replace("b", "c").replace("a", "d") for text in words_in_order(5, 2)] + words_in_order(5, 2)
        self.assertEqual(len(set(words)), 64)
        self.is_paper(why_no_ring(Web(words)), ("apart", tuple(words_in_order(4, 2))))
        self.is_paper(why_no_row(Web(words)), ("apart", tuple(words_in_order(4, 2))))
        self.is_paper(why_no_ring(Web(words[1:])), ("apart", tuple(words_in_order(4, 2))))


class Papers(Case):
    """Point 3.5."""

    def test_uneven(self):
        web = Web(["ab", "ac", "ad", "be"])
        for some, ring, row in (
            (("a",), True, True), (("b",), False, False), (("c",), True, False), (("c", "d"), True, True),
            (("a", "c"), True, True), (("a", "c", "d"), True, False), (("a", "b", "c", "d", "e"), False, False),
            (("a", "c", "d", "e"), False, False), (("b", "c", "d", "e"), True, True),
        ):
            with self.subTest(some):
                self.assertIs(shows_no_ring(web, ("uneven", some)), ring)
                self.assertIs(shows_no_row(web, ("uneven", some)), row)

    def test_apart(self):
        web = Web(["ab", "cd", "dc", "ff"])
        for some, awaited in (
            (("a", "b"), True), (("c", "d"), True), (("f",), True), (("a", "b", "f"), True), (("c", "d", "f"), True),
            (("a", "b", "c", "d"), True), (("a",), False), (("b",), False), (("a", "b", "c"), False),
            (("c", "f"), False), (("a", "b", "c", "d", "f"), False),
        ):
            with self.subTest(some):
                self.assertIs(shows_no_ring(web, ("apart", some)), awaited)
                self.assertIs(shows_no_row(web, ("apart", some)), awaited)

    def test_all_right_made_papers_of_small_webs(self):
        for words in SMALL:
            web = Web(words)
            for some in right_made(words):
                within = [(word[:-1] in some, word[1:] in some) for word in words]
                parted = len(some) < len(slow_pieces(words)) and all(one == two for one, two in within)
                surplus = slow_excess(words, some)
                with self.subTest(words=words, some=some):
                    self.assertIs(shows_no_ring(web, ("uneven", some)), surplus != 0)
                    self.assertIs(shows_no_row(web, ("uneven", some)), surplus > 1 or surplus < -1)
                    self.assertIs(shows_no_ring(web, ("apart", some)), parted)
                    self.assertIs(shows_no_row(web, ("apart", some)), parted)

    def test_what_is_shown_is_so(self):
        for words in SMALL:
            web = Web(words)
            for some in right_made(words):
                for paper in (("uneven", some), ("apart", some)):
                    if has_ring(words):
                        self.assertIs(shows_no_ring(web, paper), False)
                    if PAIRS[words]:
                        self.assertIs(shows_no_row(web, paper), False)

    def show_nothing(self, words, papers):
        for paper in papers:
            with self.subTest(paper):
                self.assertIs(shows_no_ring(Web(words), paper), False)
                self.assertIs(shows_no_row(Web(words), paper), False)

    def test_no_pieces(self):
        for words in (["ab", "ac"], ["aa", "bb"], ["a"]):
            self.show_nothing(words, [("uneven", ()), ("apart", ()), ("", ())])

    def test_not_ascending_or_a_piece_twice(self):
        uneven = ["ac", "bc"]
        self.assertIs(shows_no_row(Web(uneven), ("uneven", ("a", "b"))), True)
        self.show_nothing(uneven, [("uneven", some) for some in (
            ("b", "a"), ("a", "a"), ("c", "c"), ("a", "b", "b"), ("a", "a", "b"), ("a", "b", "a"))])
        lying_apart = ["ab", "ba", "cc", "dd"]
        self.assertIs(shows_no_row(Web(lying_apart), ("apart", ("a", "b"))), True)
        self.show_nothing(lying_apart, [("apart", some) for some in (
            ("b", "a"), ("a", "a", "b"), ("a", "b", "b"), ("c", "c"), ("d", "c"), ("a", "b", "a"))])

    def test_a_text_that_is_no_piece(self):
        uneven = ["ac", "bc"]
        for strange in ("d", "", "x", "ac", "cc", "aa"):
            for some in itertools.combinations(sorted(("a", "b", "c", strange)), 3):
                if strange in some:
                    self.show_nothing(uneven, [("uneven", some), ("apart", some)])
            self.show_nothing(uneven, [("uneven", (strange,)), ("apart", (strange,))])
            self.show_nothing(["aa", "bb"], [("apart", tuple(sorted(("a", strange))))])
        self.show_nothing(["aa", "bb"], [("apart", ("x",)), ("apart", ("",))])
        self.show_nothing(["a", "b"], [("apart", ("a",)), ("uneven", ("a",))])

    def test_another_first_text(self):
        for kind in ("", "even", "Uneven", "UNEVEN", "uneven ", " uneven", "un", "part", "Apart", "apart ", "x", "a"):
            self.show_nothing(["ab", "ac"], [(kind, ("a",)), (kind, ("b", "c"))])
            self.show_nothing(["aa", "bb"], [(kind, ("a",)), (kind, ("b",))])

    def test_the_one_first_text_for_the_other(self):
        self.show_nothing(["aa", "bb"], [("uneven", ("a",)), ("uneven", ("b",))])
        self.show_nothing(["ab", "ac"], [("apart", ("a",)), ("apart", ("b", "c"))])

    def test_the_empty_piece(self):
        self.show_nothing(["a", "b", "c"], [("uneven", ("",)), ("apart", ("",))])


class RowEnds(Case):
    """Point 3.7."""

    def test_none_where_there_is_a_ring(self):
        for words in (["a"], ["a", "f"], ["aa"], ["ab", "ba"], ["aab", "aba", "baa"], words_in_order(6, 2), ["f" * 8]):
            self.assertIsNone(row_ends(Web(words)))

    def test_the_first_and_the_last_piece(self):
        for words, awaited in (
            (["ab"], ("a", "b")), (["ba"], ("b", "a")), (["ab", "bc"], ("a", "c")), (["cb", "ba", "aa"], ("c", "a")),
            (["abc", "bcd", "cda"], ("ab", "da")), (["abcdefab"], ("abcdefa", "bcdefab")),
            (["aa", "af"], ("a", "f")), (words_in_order(6, 2)[:62], ("bbbba", "bbbbb")),
        ):
            told = row_ends(Web(words))
            self.assertIs(type(told), tuple)
            self.assertEqual(told, awaited)

    def test_all_small_webs(self):
        for words in SMALL:
            with self.subTest(words):
                if has_ring(words):
                    self.assertIsNone(row_ends(Web(words)))
                    self.assertTrue(all(first == last for first, last in PAIRS[words]))
                    self.assertEqual({first for first, last in PAIRS[words]}, set(slow_pieces(words)))
                elif PAIRS[words]:
                    self.assertEqual({row_ends(Web(words))}, PAIRS[words])
                else:
                    self.assertEqual(self.refused_rows(words), slow_why_no_row(words))

    def test_refused_with_the_paper_of_rows_not_of_rings(self):
        self.assertEqual(self.refused_rows(["ab", "cb"]), ("uneven", ("a", "c")))
        self.assertEqual(self.refused_rows(["aa", "bb"]), ("apart", ("a",)))
        self.assertEqual(self.refused_rows(["aa", "bc"]), ("apart", ("a",)))
        self.assertEqual(self.refused_rows(["ab", "ac", "dd"]), ("uneven", ("a",)))

    def test_the_web_stays(self):
        web = Web(["ba", "ab", "cc"])
        for deed in (why_no_ring, why_no_row):
            deed(web)
        shows_no_ring(web, ("apart", ("a", "b")))
        shows_no_row(web, ("uneven", ("a", "b")))
        self.assertEqual((web.words, web.length), (("ab", "ba", "cc"), 2))


if __name__ == "__main__":
    unittest.main()
