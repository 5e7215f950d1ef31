"""Point 6.4, and 0.2 to 0.6 as far as they touch it."""

import itertools
import random
import unittest

from onceround.errors import NoRing, NotOne, OnceError
from onceround.lastways import parts_of, ring_of
from onceround.none import why_no_ring
from onceround.numbered import ring_by, ring_count
from onceround.trees import is_tree, trees
from onceround.webs import Web

# Length, kinds, and how many words at most: all webs of these are gone through.
SMALL = ((1, 6, 6), (2, 2, 4), (2, 3, 9), (2, 4, 5), (3, 2, 8), (4, 2, 5), (8, 2, 1))


def texts_of(size, kinds):
    return ["".join(signs) for signs in itertools.product("abcdef"[:kinds], repeat=size)]


def ring_windows(text, length):
    return ["".join(text[(place + step) % len(text)] for step in range(length)) for place in range(len(text))]


def small_webs():
    """All small webs, with all their rings told from the least word, found by going through all texts."""
    for length, kinds, most in SMALL:
        for size in range(1, most + 1):
            found = {}
            for text in texts_of(size, kinds):
                seen = ring_windows(text, length)
                if len(set(seen)) == size and seen[0] == min(seen):
                    found.setdefault(tuple(sorted(seen)), []).append(text)
            for words in itertools.combinations(texts_of(length, kinds), size):
                yield words, found.get(words, [])


WEBS = tuple(small_webs())
RINGED = tuple((words, rings) for words, rings in WEBS if rings)
RINGLESS = tuple(words for words, rings in WEBS if not rings)


def pieces_of(words):
    return sorted({word[:-1] for word in words} | {word[1:] for word in words})


def slow_parts(words, ring):
    """The parts as the document tells them, gone round word by word."""
    home = min(words)[:-1]
    last, left = {}, {}
    for word in ring_windows(ring, len(words[0])):
        last[word[:-1]] = word
        left.setdefault(word[:-1], []).append(word)
    tree, orders = [], []
    for piece in pieces_of(words):
        kept = min(words) if piece == home else last[piece]
        orders.append(tuple(word for word in left[piece] if word != kept))
        if piece != home:
            tree.append(kept)
    return tree, orders


def all_orders(words, tree):
    """All lists of tuples that go with a tree toward the home, each other word out of the piece once."""
    kept = set(tree) | {min(words)}
    choices = [
        list(itertools.permutations([word for word in words if word[:-1] == piece and word not in kept]))
        for piece in pieces_of(words)
    ]
    return [list(chosen) for chosen in itertools.product(*choices)]


def closed_walk(chance, length, kinds, least, most):
    """A random ring of unlike words, told from the least one, and its words."""
    while True:
        text = "".join(chance.choice("abcdef"[:kinds]) for _ in range(chance.randint(least, most)))
        words = ring_windows(text, length)
        if len(set(words)) == len(words):
            start = words.index(min(words))
            return text[start:] + text[:start], words


# Lengths and kinds of which there are at most 64 words.
WHOLE = [(length, kinds) for length in range(1, 9) for kinds in range(1, 7) if kinds ** length <= 64]


class Case(unittest.TestCase):
    def refused(self, refusal, deed, *handed):
        with self.assertRaises(OnceError) as taken:
            deed(*handed)
        self.assertIs(type(taken.exception), refusal)
        self.assertEqual(refusal.__bases__, (OnceError,))
        return taken.exception

    def are_parts(self, found, expected):
        self.assertIs(type(found), tuple)
        self.assertEqual(len(found), 2)
        tree, orders = found
        self.assertIs(type(tree), list)
        self.assertIs(type(orders), list)
        for word in tree:
            self.assertIs(type(word), str)
        for order in orders:
            self.assertIs(type(order), tuple)
        self.assertEqual((tree, orders), expected)

    def is_text(self, found, expected):
        self.assertIs(type(found), str)
        self.assertEqual(found, expected)


class Parts(Case):
    def test_examples(self):
        web = Web(["aa", "ab", "ba", "bb"])
        self.are_parts(parts_of(web, "aabb"), (["ba"], [("ab",), ("bb",)]))
        web = Web(["ab", "ac", "ba", "bc", "ca", "cb"])
        self.are_parts(parts_of(web, "abacbc"), (["bc", "ca"], [("ac",), ("ba",), ("cb",)]))
        self.are_parts(parts_of(web, "abcbac"), (["ba", "ca"], [("ac",), ("bc",), ("cb",)]))
        self.are_parts(parts_of(web, "abcacb"), (["ba", "cb"], [("ac",), ("bc",), ("ca",)]))

    def test_the_home_is_left_by_the_least_word_first(self):
        # The least word isn't told again, though it goes ahead of the others out of the home.
        web = Web(["ab", "ac", "ad", "ba", "ca", "da"])
        self.are_parts(parts_of(web, "abadac"), (["ba", "ca", "da"], [("ad", "ac"), (), (), ()]))
        self.are_parts(parts_of(web, "abacad"), (["ba", "ca", "da"], [("ac", "ad"), (), (), ()]))

    def test_one_word(self):
        self.are_parts(parts_of(Web(["d"]), "d"), ([], [()]))
        self.are_parts(parts_of(Web(["aa"]), "a"), ([], [()]))
        self.are_parts(parts_of(Web(["ffffffff"]), "f"), ([], [()]))

    def test_one_piece(self):
        web = Web(["a", "c", "d"])
        self.are_parts(parts_of(web, "acd"), ([], [("c", "d")]))
        self.are_parts(parts_of(web, "adc"), ([], [("d", "c")]))
        for order in itertools.permutations("bcdef"):
            ring = "a" + "".join(order)
            self.are_parts(parts_of(Web(list("fedcba")), ring), ([], [order]))

    def test_rings_shorter_than_their_words(self):
        web = Web(["abababab", "babababa"])
        self.are_parts(parts_of(web, "ab"), (["babababa"], [(), ()]))
        web = Web(["aab", "aba", "baa"])
        self.are_parts(parts_of(web, "aab"), (["aba", "baa"], [(), (), ()]))

    def test_each_ring_of_small_webs(self):
        for words, rings in RINGED:
            web = Web(words)
            for ring in rings:
                self.are_parts(parts_of(web, ring), slow_parts(words, ring))

    def test_the_tree_and_the_tuples_are_as_told(self):
        for words, rings in RINGED:
            web = Web(words)
            home = min(words)[:-1]
            for ring in rings:
                tree, orders = parts_of(web, ring)
                self.assertTrue(is_tree(web, home, tree))
                self.assertEqual(len(orders), len(pieces_of(words)))
                for piece, order in zip(pieces_of(words), orders):
                    others = [word for word in words if word[:-1] == piece and word not in tree]
                    self.assertEqual(sorted(order), [word for word in others if word != words[0]])

    def test_great_webs(self):
        chance = random.Random(641)
        for length, kinds in WHOLE:
            web = Web(texts_of(length, kinds))
            for number in {0, ring_count(web) - 1, chance.randrange(ring_count(web))}:
                ring = ring_by(web, number)
                self.are_parts(parts_of(web, ring), slow_parts(web.words, ring))

    def test_texts_that_are_no_ring_so_told(self):
        web = Web(["aa", "ab", "ba", "bb"])
        for text in ("", "a", "aab", "abba", "bbaa", "baab", "aaab", "aaaa", "aabba", "aabbaabb", "cccc", "ffff",
                     "ddab", "a" * 200, "aabb" * 50):
            self.refused(NotOne, parts_of, web, text)
        self.refused(NotOne, parts_of, Web(["d"]), "")
        self.refused(NotOne, parts_of, Web(["d"]), "dd")
        self.refused(NotOne, parts_of, Web(["aa"]), "aa")

    def test_all_other_texts_of_small_webs(self):
        for words, rings in RINGED:
            if len(words) <= 4 and len(words[0]) <= 3:
                web = Web(words)
                for size in range(1, 6):
                    for text in texts_of(size, 3):
                        if text not in rings:
                            self.refused(NotOne, parts_of, web, text)

    def test_webs_without_a_ring(self):
        for words in RINGLESS[::7]:
            web = Web(words)
            for text in ("", "a", "ab", "".join(word[0] for word in words)):
                self.refused(NotOne, parts_of, web, text)


class Rings(Case):
    def test_examples(self):
        web = Web(["ab", "ac", "ba", "bc", "ca", "cb"])
        self.is_text(ring_of(web, ["bc", "ca"], [("ac",), ("ba",), ("cb",)]), "abacbc")
        self.is_text(ring_of(web, ["ba", "ca"], [("ac",), ("bc",), ("cb",)]), "abcbac")
        self.is_text(ring_of(web, ["ba", "cb"], [("ac",), ("bc",), ("ca",)]), "abcacb")

    def test_one_word_and_one_piece(self):
        self.is_text(ring_of(Web(["d"]), [], [()]), "d")
        self.is_text(ring_of(Web(["aa"]), (), ((),)), "a")
        self.is_text(ring_of(Web(["ffffffff"]), [], [[]]), "f")
        for order in itertools.permutations("bcdef"):
            self.is_text(ring_of(Web(list("fedcba")), [], [order]), "a" + "".join(order))

    def test_lists_and_tuples(self):
        web = Web(["aa", "ab", "ac", "ba", "ca"])
        for tree in (["ba", "ca"], ("ba", "ca")):
            for orders in ([("ac", "ab"), (), ()], (["ac", "ab"], [], []), [["ac", "ab"], (), []],
                           (("ac", "ab"), (), ())):
                self.is_text(ring_of(web, tree, orders), "aacab")

    def test_parts_lead_back(self):
        for words, rings in RINGED:
            web = Web(words)
            for ring in rings:
                tree, orders = slow_parts(words, ring)
                self.is_text(ring_of(web, tree, orders), ring)
                self.is_text(ring_of(web, tuple(tree), tuple(list(order) for order in orders)), ring)

    def test_all_parts_tell_each_ring_once(self):
        for words, rings in RINGED:
            web = Web(words)
            found = []
            for tree in trees(web, words[0][:-1]):
                for orders in all_orders(words, tree):
                    ring = ring_of(web, tree, orders)
                    found.append(ring)
                    self.are_parts(parts_of(web, ring), (tree, orders))
            self.assertEqual(sorted(found), rings)

    def test_great_webs_lead_back(self):
        chance = random.Random(642)
        for length, kinds in WHOLE:
            web = Web(texts_of(length, kinds))
            for number in {0, ring_count(web) - 1, chance.randrange(ring_count(web))}:
                ring = ring_by(web, number)
                self.is_text(ring_of(web, *parts_of(web, ring)), ring)
        for length, kinds in ((2, 6), (3, 4), (4, 3), (5, 3), (6, 2), (7, 2), (8, 2)):
            for _ in range(4):
                ring, words = closed_walk(chance, length, kinds, 8, 20)
                chance.shuffle(words)
                web = Web(words)
                self.are_parts(parts_of(web, ring), slow_parts(words, ring))
                self.is_text(ring_of(web, *slow_parts(words, ring)), ring)


class NoParts(Case):
    WORDS = ("aa", "ab", "ac", "ba", "bb", "bc", "ca", "cb", "cc")
    TREE = ["ba", "cb"]
    ORDERS = [("ac", "ab"), ("bc", "bb"), ("cc", "ca")]

    def changed(self, place, order):
        return self.ORDERS[:place] + [order] + self.ORDERS[place + 1:]

    def test_the_parts_that_are_changed_below(self):
        web = Web(self.WORDS)
        ring = ring_of(web, self.TREE, self.ORDERS)
        self.are_parts(parts_of(web, ring), (self.TREE, self.ORDERS))

    def test_trees_that_are_none(self):
        web = Web(self.WORDS)
        for tree in ([], ["ba"], ["cb"], ["bc", "cb"], ["bb", "cb"], ["ba", "cc"], ["cb", "ba"], ["ba", "ba"],
                     ["ba", "cb", "cb"], ["ab", "ba", "cb"], ["aa", "ba", "cb"], ["ba", "cd"], ["ba", "c"],
                     ["ba", ""], ["", ""], ["ba", "cbb"], ["ba", "CB"], ["ac", "cb"], ["ba", "ca"], ["bc", "ca"]):
            self.refused(NotOne, ring_of, web, tree, self.ORDERS)
            self.refused(NotOne, ring_of, web, tuple(tree), tuple(self.ORDERS))

    def test_trees_that_are_none_with_orders_that_would_fit(self):
        web = Web(self.WORDS)
        # The words of b and c go round, and never come to the home.
        self.refused(NotOne, ring_of, web, ["bc", "cb"], [("ab", "ac"), ("ba", "bb"), ("ca", "cc")])
        self.refused(NotOne, ring_of, web, ["bb", "ca"], [("ab", "ac"), ("ba", "bc"), ("cb", "cc")])
        # A tree that doesn't ascend is none as told.
        self.refused(NotOne, ring_of, web, ["cb", "ba"], self.ORDERS)

    def test_tuples_too_many_or_too_few(self):
        web = Web(self.WORDS)
        for orders in ([], [()], self.ORDERS[:2], self.ORDERS[1:], self.ORDERS + [()], [()] + self.ORDERS,
                       self.ORDERS + self.ORDERS, self.ORDERS + [("aa",)]):
            self.refused(NotOne, ring_of, web, self.TREE, orders)
            self.refused(NotOne, ring_of, web, tuple(self.TREE), tuple(orders))
        for orders in ([], [(), ()]):
            self.refused(NotOne, ring_of, Web(["d"]), [], orders)

    def test_tuples_of_other_pieces(self):
        web = Web(self.WORDS)
        for orders in itertools.permutations(self.ORDERS):
            if list(orders) != self.ORDERS:
                self.refused(NotOne, ring_of, web, self.TREE, orders)

    def test_words_twice_left_out_or_strange(self):
        web = Web(self.WORDS)
        for place, order in (
            (0, ("ab", "ab")), (0, ("ac", "ab", "ab")), (0, ("ac",)), (0, ()), (0, ("aa", "ab")),
            (0, ("aa", "ab", "ac")), (0, ("ab", "ac", "aa")), (0, ("ab", "ac", "ad")), (0, ("ab", "ba")),
            (0, ("ab", "")), (0, ("ab", "ac", "")),
            (1, ("bc", "bc")), (1, ("bb",)), (1, ()), (1, ("ba", "bc")), (1, ("ba", "bb", "bc")),
            (1, ("bb", "bc", "ba")), (1, ("bc", "bb", "bb")), (1, ("bc", "bd")), (1, ("bc", "b")), (1, ("bc", "cb")),
            (2, ("cb", "cc")), (2, ("ca", "cb", "cc")), (2, ("ca",)), (2, ("ca", "ca")), (2, ("cc", "ca", "z")),
        ):
            self.refused(NotOne, ring_of, web, self.TREE, self.changed(place, order))
            self.refused(NotOne, ring_of, web, self.TREE, tuple(self.changed(place, list(order))))

    def test_all_small_orders_that_are_none(self):
        words = ("aa", "ab", "ba", "bb")
        web = Web(words)
        orders = [order for size in range(4) for order in itertools.product(words, repeat=size)]
        for tree in [list(some) for size in range(3) for some in itertools.product(words, repeat=size)]:
            for home in orders:
                for other in ((), ("bb",), ("ba",), ("bb", "ba"), ("ab",)):
                    if tree == ["ba"] and home == ("ab",) and other == ("bb",):
                        self.is_text(ring_of(web, tree, [home, other]), "aabb")
                    else:
                        self.refused(NotOne, ring_of, web, tree, [home, other])

    def test_one_word_and_one_piece(self):
        web = Web(["d"])
        for tree, orders in ((["d"], [()]), ([], [("d",)]), ([""], [()]), ([], [("",)]), (["d"], [("d",)])):
            self.refused(NotOne, ring_of, web, tree, orders)
        web = Web(["a", "b", "c"])
        for tree, orders in (([], [("a", "b", "c")]), ([], [("b",)]), ([], [("b", "b")]), (["a"], [("b", "c")]),
                             (["c"], [("b",)]), ([], [("b", "c", "d")]), ([], [("b", "d")]), ([], [("b",), ("c",)])):
            self.refused(NotOne, ring_of, web, tree, orders)

    def test_parts_of_another_web(self):
        web = Web(["aa", "ab", "ba", "bb"])
        other = Web(["ab", "ac", "ba", "bc", "ca", "cb"])
        self.refused(NotOne, ring_of, web, *parts_of(other, "abacbc"))
        self.refused(NotOne, ring_of, other, *parts_of(web, "aabb"))


class NoRings(Case):
    def test_examples(self):
        self.assertEqual(self.refused(NoRing, ring_of, Web(["ab"]), [], [(), ()]).paper, ("uneven", ("a",)))
        self.assertEqual(self.refused(NoRing, ring_of, Web(["aa", "bb"]), [], [()]).paper, ("apart", ("a",)))
        self.assertEqual(self.refused(NoRing, ring_of, Web(["ab", "bc", "cb"]), ["bc", "cb"], [(), (), ()]).paper,
                         ("uneven", ("a",)))

    def test_ahead_of_parts_that_are_none(self):
        for words in RINGLESS[::5]:
            web = Web(words)
            for tree, orders in (([], []), (["z"], [("z",)]), ((), ((),)), (list(words), [tuple(words)])):
                paper = self.refused(NoRing, ring_of, web, tree, orders).paper
                self.assertEqual(paper, why_no_ring(web))
                self.assertIs(type(paper), tuple)
                self.assertIs(type(paper[1]), tuple)

    def test_a_tree_and_orders_that_would_fit(self):
        # Each piece has its words, and yet none is a ring.
        web = Web(["ab", "ba", "bc", "cb", "ca"])
        paper = self.refused(NoRing, ring_of, web, ["ba", "ca"], [(), ("bc",), ("cb",)]).paper
        self.assertEqual(paper, ("uneven", ("a",)))


class Own(Case):
    def test_told_lists_are_the_askers_own(self):
        web = Web(["ab", "ac", "ba", "bc", "ca", "cb"])
        expected = (["bc", "ca"], [("ac",), ("ba",), ("cb",)])
        tree, orders = parts_of(web, "abacbc")
        tree.append("zz")
        tree[0] = "yy"
        orders.clear()
        self.are_parts(parts_of(web, "abacbc"), expected)
        self.assertEqual(web.words, ("ab", "ac", "ba", "bc", "ca", "cb"))
        first, second = parts_of(web, "abacbc"), parts_of(web, "abacbc")
        first[0].clear()
        first[1].append(())
        self.are_parts(second, expected)

    def test_what_is_handed_in_stays(self):
        web = Web(["ab", "ac", "ba", "bc", "ca", "cb"])
        tree, orders = ["bc", "ca"], [["ac"], ["ba"], ["cb"]]
        for _ in range(2):
            self.is_text(ring_of(web, tree, orders), "abacbc")
            self.assertEqual(tree, ["bc", "ca"])
            self.assertEqual(orders, [["ac"], ["ba"], ["cb"]])
        wrong = [["ac"], ["ba", "bc"], ["cb"]]
        self.refused(NotOne, ring_of, web, tree, wrong)
        self.assertEqual(wrong, [["ac"], ["ba", "bc"], ["cb"]])
        self.assertEqual(web.words, ("ab", "ac", "ba", "bc", "ca", "cb"))
        self.assertEqual(web.length, 2)

    def test_nothing_is_kept_of_what_is_handed_in(self):
        web = Web(["a", "b", "c"])
        orders = [["b", "c"]]
        ring = ring_of(web, [], orders)
        orders[0].reverse()
        self.is_text(ring, "abc")
        self.is_text(ring_of(web, [], orders), "acb")


if __name__ == "__main__":
    unittest.main()
