"""Points 5.2 to 5.4, and 0.2 to 0.6 as far as they touch these."""

import copy
import itertools
import random
import unittest

from onceround.errors import NoSuch, NotOne, OnceError, TooMany
from onceround.trees import choices_counted, is_tree, tree_by, tree_count, tree_number, trees
from onceround.webs import Web

GREAT = 10 ** 59
# A number of more figures than Python writes as a text without being told so.
VAST = 10 ** 6000

# Length, kinds, and how many words at most: all webs of these are gone through.
SMALL = ((1, 3, 3), (2, 2, 4), (2, 3, 9), (3, 2, 8), (2, 4, 3), (4, 2, 3), (8, 2, 1))

# Webs with a piece toward which there are just so many trees.
EXACT = (
    (499, "aa ab ac ad ae bc bd bf ca cb cc cd ce cf da db dd df eb ec ed ef fa fb fc fe ff", "b"),
    (500, "aa ac ad ae af ba bb bc bd be bf ca cc cd ce cf da db dc dd de ea ec ed ee fa fc fd fe ff", "a"),
    (500, "aa ab ac ad af ba bb be bf ca cb cd ce da db dc dd de ea eb ec ed ee fa fb fc fd ff", "b"),
    (501, "aaa aab aba abb abc aca acc add baa bab bac bba bbb bbc bbd bca bcb bcc bcd bdc bdd cac cba cbc cbd cca "
          "ccd cda dab dac dad dba dca dda ddb ddc ddd", "aa"),
    (502, "aba acb acc acd ada adb adc add bac bad bba bca bcd bdb bdc bdd cac cba cbb cbc cca cda cdb cdc daa dab "
          "dba dbd dcb dcd ddb ddd", "aa"),
)


def texts_of(size, kinds):
    return ["".join(signs) for signs in itertools.product("abcdef"[:kinds], repeat=size)]


def small_webs():
    for length, kinds, most in SMALL:
        for size in range(1, most + 1):
            yield from itertools.combinations(texts_of(length, kinds), size)


def pieces_of(words):
    return sorted({word[:-1] for word in words} | {word[1:] for word in words})


def comes_out(chosen, text):
    """Where one comes to from a text by the chosen words; None if one goes round for ever."""
    gone = set()
    while text in chosen:
        if text in gone:
            return None
        gone.add(text)
        text = chosen[text][1:]
    return text


def all_choices(ways):
    """All choices of one word for each text, as dicts, in order."""
    texts = sorted(ways)
    for words in itertools.product(*[sorted(ways[text]) for text in texts]):
        yield dict(zip(texts, words))


def slow_trees(words, piece):
    ways = {other: [word for word in words if word[:-1] == other] for other in pieces_of(words) if other != piece}
    found = []
    for chosen in all_choices(ways):
        if all(comes_out(chosen, other) == piece for other in chosen):
            found.append([chosen[other] for other in sorted(chosen)])
    return sorted(found)


def slow_count(ways):
    return sum(all(comes_out(chosen, text) is not None for text in chosen) for chosen in all_choices(ways))


WEBS = tuple((words, piece, slow_trees(words, piece)) for words in small_webs() for piece in pieces_of(words))


def random_ring(chance, length, kinds, size):
    """The words of a walk that comes back to where it began, or None where one word stood there twice."""
    text = "".join(chance.choice("abcdef"[:kinds]) for _ in range(size))
    words = [(text * 9)[place:place + length] for place in range(size)]
    return words if len(set(words)) == size else None


class Case(unittest.TestCase):
    def refused(self, refusal, deed, *handed):
        with self.assertRaises(OnceError) as taken:
            deed(*handed)
        self.assertIs(type(taken.exception), refusal)
        self.assertEqual(refusal.__bases__, (OnceError,))

    def is_whole(self, found, expected):
        self.assertIs(type(found), int)
        self.assertEqual(found, expected)

    def is_list(self, found, expected):
        self.assertIs(type(found), list)
        self.assertEqual(found, expected)

    def is_list_of_lists(self, found, expected):
        self.is_list(found, expected)
        self.assertTrue(all(type(tree) is list for tree in found))


class Trees(Case):
    """Point 5.2."""

    def test_examples(self):
        web = Web(["aa", "ab", "ba", "bb"])
        self.is_list_of_lists(trees(web, "a"), [["ba"]])
        self.is_list_of_lists(trees(web, "b"), [["ab"]])
        web = Web(["ab", "ac", "bc", "cb", "ba", "ca"])
        self.is_list_of_lists(trees(web, "a"), [["ba", "ca"], ["ba", "cb"], ["bc", "ca"]])
        self.is_list(tree_by(web, "a", 1), ["ba", "cb"])
        self.is_whole(tree_number(web, "a", ["bc", "ca"]), 2)
        self.assertIs(is_tree(web, "a", ["bc", "cb"]), False)
        self.assertIs(is_tree(web, "b", ["ab", "ca"]), True)

    def test_small_webs(self):
        for words, piece, expected in WEBS:
            web = Web(words)
            with self.subTest(words=words, piece=piece):
                self.is_list_of_lists(trees(web, piece), expected)
                for number, tree in enumerate(expected):
                    self.is_list(tree_by(web, piece, number), tree)
                    self.is_whole(tree_number(web, piece, tree), number)
                    self.is_whole(tree_number(web, piece, tuple(tree)), number)
                for number in (-1, len(expected)):
                    self.refused(NoSuch, tree_by, web, piece, number)

    def test_all_choices_of_small_webs(self):
        for words, piece, expected in WEBS:
            web = Web(words)
            size = len(pieces_of(words)) - 1
            for more in (size - 1, size, size + 1):
                if 0 <= more <= 4:
                    for some in itertools.combinations(words, more):
                        self.assertIs(is_tree(web, piece, list(some)), list(some) in expected)
                        self.assertIs(is_tree(web, piece, some), list(some) in expected)

    def test_webs_of_one_piece(self):
        for words, piece in ((["a"], ""), (["a", "b"], ""), (list("abcdef"), ""), (["aa"], "a"), (["f" * 8], "f" * 7)):
            web = Web(words)
            self.is_list_of_lists(trees(web, piece), [[]])
            self.is_whole(tree_count(web, piece), 1)
            self.is_list(tree_by(web, piece, 0), [])
            self.is_whole(tree_number(web, piece, []), 0)
            self.is_whole(tree_number(web, piece, ()), 0)
            self.assertIs(is_tree(web, piece, []), True)
            self.assertIs(is_tree(web, piece, ()), True)
            self.assertIs(is_tree(web, piece, words), False)
            self.assertIs(is_tree(web, piece, [""]), False)
            self.refused(NoSuch, tree_by, web, piece, 1)
            self.refused(NotOne, tree_number, web, piece, [words[0]])

    def test_no_tree(self):
        for words, piece in ((["ab"], "a"), (["ab", "bc"], "b"), (["aa", "bb"], "a"), (["ab", "cd"], "b"),
                             (["ab", "ba", "cd", "dc"], "c"), (["ab", "bb"], "a"), (["abcdefab"], "abcdefa")):
            web = Web(words)
            self.is_whole(tree_count(web, piece), 0)
            self.is_list(trees(web, piece), [])
            self.assertIs(is_tree(web, piece, []), False)
            self.assertIs(is_tree(web, piece, words), False)
            self.refused(NotOne, tree_number, web, piece, [])
            for number in (0, 1, -1, GREAT, -GREAT):
                self.refused(NoSuch, tree_by, web, piece, number)

    def test_no_tree_though_most_pieces_have_many_words(self):
        words = [one + two for one in "abcde" for two in "abcdef"]
        web = Web(words)
        for piece in "abcde":
            self.is_list(trees(web, piece), [])
            self.is_whole(tree_count(web, piece), 0)
        self.refused(TooMany, trees, web, "f")
        self.is_whole(tree_count(web, "f"), 1296)

    def test_what_is_no_tree(self):
        web = Web(["aa", "ab", "ac", "ba", "bc", "bd", "ca", "cb", "da", "dd"])
        right = ["ba", "cb", "da"]
        self.assertIs(is_tree(web, "a", right), True)
        wrong = (
            [],
            ["ba", "cb"], ["ba", "da"], ["cb", "da"], ["ba"],
            ["aa", "ba", "cb", "da"], ["ab", "ba", "cb", "da"], ["ba", "bc", "cb", "da"], ["ba", "cb", "da", "dd"],
            ["ba", "ba", "cb", "da"], ["ba", "cb", "da", "da"],
            ["ba", "bc", "da"], ["ba", "bc", "cb"], ["ca", "cb", "da"], ["ba", "ca", "cb"],
            ["bc", "cb", "da"], ["ba", "cb", "dd"], ["bc", "cb", "dd"],
            ["cb", "ba", "da"], ["da", "cb", "ba"], ["ba", "da", "cb"],
            ["ba", "cb", "db"], ["ba", "cc", "da"], ["bb", "cb", "da"], ["ba", "cb", "ea"], ["ba", "cb", "dz"],
            ["b", "c", "d"], ["baa", "cbb", "daa"], ["b", "cb", "da"], ["", "cb", "da"], ["", "", ""],
            ["BA", "CB", "DA"], ["x", "y", "z"], ["ab", "bc", "cb"], ["f" * 200, "cb", "da"],
        )
        for tree in wrong:
            with self.subTest(tree):
                self.assertIs(is_tree(web, "a", tree), False)
                self.assertIs(is_tree(web, "a", tuple(tree)), False)
                self.refused(NotOne, tree_number, web, "a", tree)
                self.refused(NotOne, tree_number, web, "a", tuple(tree))
        self.assertIs(is_tree(web, "a", tuple(right)), True)
        self.assertIs(is_tree(web, "b", right), False)

    def test_the_order_is_that_of_lists(self):
        web = Web(texts_of(2, 5))
        told = trees(web, "c")
        self.assertEqual(len(told), 125)
        self.assertEqual(told, sorted(told))
        self.assertEqual(told, slow_trees(texts_of(2, 5), "c"))
        for number in (0, 1, 2, 61, 62, 123, 124):
            self.is_list(tree_by(web, "c", number), told[number])
            self.is_whole(tree_number(web, "c", told[number]), number)

    def test_just_500_are_told(self):
        for count, text, piece in EXACT:
            web = Web(text.split())
            with self.subTest(count):
                self.is_whole(tree_count(web, piece), count)
                if count > 500:
                    self.refused(TooMany, trees, web, piece)
                else:
                    told = trees(web, piece)
                    self.is_list_of_lists(told, slow_trees(text.split(), piece))
                    self.assertEqual(len(told), count)
                for number in (0, 1, 250, count - 2, count - 1):
                    tree = tree_by(web, piece, number)
                    self.assertIs(is_tree(web, piece, tree), True)
                    self.is_whole(tree_number(web, piece, tree), number)
                    if count <= 500:
                        self.assertEqual(tree, told[number])
                self.refused(NoSuch, tree_by, web, piece, count)

    def test_more_than_500_are_numbered_though_not_told(self):
        web = Web(texts_of(2, 6))
        expected = slow_trees(texts_of(2, 6), "d")
        self.assertEqual(len(expected), 1296)
        self.refused(TooMany, trees, web, "d")
        for number in list(range(0, 1296, 91)) + [500, 501, 1295]:
            self.is_list(tree_by(web, "d", number), expected[number])
            self.is_whole(tree_number(web, "d", expected[number]), number)

    def test_64_words(self):
        for length, kinds, count in ((6, 2, 2 ** 26), (3, 4, 4 ** 13)):
            web = Web(texts_of(length, kinds))
            for piece in ("a" * (length - 1), "b" * (length - 1), "ab" * 3):
                piece = piece[:length - 1]
                self.is_whole(tree_count(web, piece), count)
                self.refused(TooMany, trees, web, piece)
                last = None
                for number in (0, 1, count // 3, count // 2, count - 2, count - 1):
                    tree = tree_by(web, piece, number)
                    self.assertIs(type(tree), list)
                    self.assertIs(is_tree(web, piece, tree), True)
                    self.is_whole(tree_number(web, piece, tree), number)
                    self.assertTrue(last is None or last < tree)
                    last = tree
                self.refused(NoSuch, tree_by, web, piece, count)

    def test_long_webs_of_many_pieces(self):
        words = ["aaaaaa" + sign for sign in "ab"] + ["aaaaabb", "aaaabba", "aaabbaa", "aabbaaa", "abbaaaa", "bbaaaaa",
                                                      "baaaaaa"]
        for piece in pieces_of(words):
            web = Web(words)
            self.is_list_of_lists(trees(web, piece), slow_trees(words, piece))
            self.assertEqual(len(trees(web, piece)), 1)

    def test_numbers_that_are_none(self):
        web = Web(["ab", "ac", "bc", "cb", "ba", "ca"])
        for piece in "abc":
            for number in (-1, -3, 3, 4, GREAT, -GREAT, VAST, -VAST):
                self.refused(NoSuch, tree_by, web, piece, number)

    def test_the_web_has_no_such_piece(self):
        web = Web(texts_of(2, 6)[:-1])
        for piece in ("", "aa", "ab", "g", "A", "z", " ", "aaa", "f" * 200):
            self.refused(NoSuch, tree_count, web, piece)
            self.refused(NoSuch, is_tree, web, piece, [])
            self.refused(NoSuch, trees, web, piece)
            self.refused(NoSuch, tree_by, web, piece, 0)
            self.refused(NoSuch, tree_by, web, piece, -1)
            self.refused(NoSuch, tree_number, web, piece, [])
            self.refused(NoSuch, tree_number, web, piece, ["aa", "ba"])
        for words, piece in ((["a", "b"], "a"), (["ab", "ba"], "c"), (["ab", "ba"], ""), (["aab"], "b")):
            self.refused(NoSuch, tree_count, Web(words), piece)
            self.refused(NoSuch, is_tree, Web(words), piece, words)
            self.refused(NoSuch, trees, Web(words), piece)
            self.refused(NoSuch, tree_by, Web(words), piece, GREAT)
            self.refused(NoSuch, tree_number, Web(words), piece, words)


class Counts(Case):
    """Point 5.3."""

    def test_small_webs(self):
        for words, piece, expected in WEBS:
            self.is_whole(tree_count(Web(words), piece), len(expected))

    def test_random_webs(self):
        chance = random.Random(531)
        above = 0
        for length, kinds, size in ((2, 6, 24), (2, 6, 33), (2, 5, 20), (3, 3, 20), (3, 3, 24), (4, 2, 14), (3, 2, 8)):
            for _ in range(6):
                words = chance.sample(texts_of(length, kinds), size)
                for piece in pieces_of(words)[:3]:
                    expected = slow_trees(words, piece)
                    self.is_whole(tree_count(Web(words), piece), len(expected))
                    above += len(expected) > 500
                    if len(expected) <= 60:
                        self.is_list_of_lists(trees(Web(words), piece), expected)
        self.assertGreater(above, 0)

    def test_as_many_toward_each_piece_where_each_excess_is_nought(self):
        chance = random.Random(532)
        found = 0
        while found < 60:
            words = random_ring(chance, chance.randint(2, 5), chance.randint(2, 4), chance.randint(2, 24))
            if words is not None:
                counts = [tree_count(Web(words), piece) for piece in pieces_of(words)]
                self.assertEqual(len(set(counts)), 1, words)
                self.assertGreater(counts[0], 0)
                found += 1
        for words, piece, expected in WEBS:
            begins = sorted(word[:-1] for word in words)
            if begins == sorted(word[1:] for word in words):
                self.is_whole(tree_count(Web(words), pieces_of(words)[0]), len(expected))

    def test_words_that_lead_from_a_piece_to_itself_count_for_nothing(self):
        for words, piece, expected in WEBS:
            if len(words[0]) == 2:
                rest = [word for word in words if word[0] != word[1]]
                if pieces_of(rest) == pieces_of(words):
                    self.is_whole(tree_count(Web(words), piece), tree_count(Web(rest), piece))
        self.is_whole(tree_count(Web(["aa", "bb", "ab"]), "b"), 1)
        self.is_whole(tree_count(Web(["aa", "bb", "ab"]), "a"), 0)

    def test_known_counts(self):
        for kinds in range(1, 7):
            for piece in "abcdef"[:kinds]:
                expected = 1 if kinds < 3 else kinds ** (kinds - 2)
                self.is_whole(tree_count(Web(texts_of(2, kinds)), piece), expected)
        for length in range(2, 7):
            # As many as rings of all words of two letters.
            self.is_whole(tree_count(Web(texts_of(length, 2)), "b" * (length - 1)), 2 ** (2 ** (length - 1) - length))

    def test_more_pieces_than_words(self):
        words = ["".join(signs) for signs in itertools.product("ab", "cd", "ef", "ac", "bd", "ef")]
        self.assertEqual(len(words), 64)
        web = Web(words)
        for piece in pieces_of(words)[::9]:
            self.is_whole(tree_count(web, piece), 0)
            self.is_list(trees(web, piece), [])


class Choices(Case):
    """Point 5.4."""

    def test_no_texts(self):
        self.is_whole(choices_counted({}), 1)

    def test_one_text(self):
        self.is_whole(choices_counted({"a": []}), 0)
        self.is_whole(choices_counted({"a": ["ab"]}), 1)
        self.is_whole(choices_counted({"a": ["aa"]}), 0)
        self.is_whole(choices_counted({"a": ["ab", "ac", "af"]}), 3)
        self.is_whole(choices_counted({"a": ["aa", "ab", "ac"]}), 2)
        self.is_whole(choices_counted({"": ["a", "b"]}), 0)
        self.is_whole(choices_counted({"": []}), 0)
        self.is_whole(choices_counted({"abcdefa": ["abcdefab", "abcdefaa"]}), 2)

    def test_more_texts(self):
        self.is_whole(choices_counted({"a": ["ab"], "b": ["ba"]}), 0)
        self.is_whole(choices_counted({"a": ["ab"], "b": ["ba", "bc"]}), 1)
        self.is_whole(choices_counted({"a": ["ab", "ac"], "b": ["ba", "bc"]}), 3)
        self.is_whole(choices_counted({"a": ["ab"], "b": []}), 0)
        self.is_whole(choices_counted({"b": ["bb", "ba"], "a": ["aa", "ac"]}), 1)

    def test_a_word_that_leads_to_its_own_begin_is_never_chosen(self):
        chance = random.Random(541)
        for _ in range(60):
            ways = self.random_ways(chance, 2, 6, 0.5)
            for text in ways:
                other = dict(ways)
                other[text] = sorted(set(ways[text]) | {text + text})
                without = dict(ways)
                without[text] = sorted(set(ways[text]) - {text + text})
                self.assertEqual(choices_counted(other), choices_counted(without))
                other[text] = [text + text]
                self.is_whole(choices_counted(other), 0)

    def test_a_text_with_no_words(self):
        chance = random.Random(542)
        for _ in range(40):
            ways = self.random_ways(chance, 3, 3, 0.6)
            for text in ways:
                other = dict(ways)
                other[text] = []
                self.is_whole(choices_counted(other), 0)

    def test_against_all_choices(self):
        chance = random.Random(543)
        many = 0
        for length, kinds, share in ((2, 2, 0.7), (2, 3, 0.6), (2, 4, 0.6), (2, 5, 0.5), (2, 6, 0.4), (3, 2, 0.8),
                                     (3, 3, 0.5), (4, 2, 0.7), (5, 2, 0.6), (8, 2, 0.9)):
            for _ in range(40):
                ways = self.random_ways(chance, length, kinds, share)
                expected = slow_count(ways)
                self.is_whole(choices_counted(ways), expected)
                many += expected > 1
        self.assertGreater(many, 100)

    def test_texts_of_unlike_lengths(self):
        ways = {"a": ["ab", "ac"], "ab": ["aba", "abb"], "ba": ["bab"], "bb": ["bbb", "bba"]}
        self.is_whole(choices_counted(ways), slow_count(ways))

    def test_the_order_of_the_texts_counts_for_nothing(self):
        chance = random.Random(544)
        for _ in range(30):
            ways = self.random_ways(chance, 2, 5, 0.6)
            turned = {text: ways[text][::-1] for text in sorted(ways, reverse=True)}
            self.assertEqual(choices_counted(turned), choices_counted(ways))

    def test_trees_with_told_words(self):
        words = texts_of(2, 4)
        every = slow_trees(words, "c")
        for word in words:
            if word[0] != "c":
                ways = {text: [other for other in words if other[0] == text] for text in "abd"}
                ways[word[0]] = [word]
                self.is_whole(choices_counted(ways), sum(word in tree for tree in every))

    def test_many_texts(self):
        ways = {word: [word + sign for sign in "abcdef"] for word in texts_of(3, 5)}
        for word in ways:
            if word[0] != "a":
                ways[word] = [word + "f"]
        # Only one word leads round, from the text aaa to itself: by all others one comes, in three steps at most, to a
        # text without an a ahead, and from there out.
        self.assertEqual(len(ways), 125)
        self.is_whole(choices_counted(ways), 5 * 6 ** 24)

    def random_ways(self, chance, length, kinds, share):
        texts = texts_of(length - 1, kinds)
        some = chance.sample(texts, chance.randint(1, min(len(texts), 6)))
        ways = {}
        for text in some:
            ways[text] = [text + sign for sign in "abcdef"[:kinds] if chance.random() < share]
            chance.shuffle(ways[text])
        return ways


class Own(Case):
    """Point 0.4: what is handed in stays, and what is told is the asker's own."""

    def test_the_dict_stays(self):
        ways = {"b": ["bb", "ba", "bc"], "a": ["ab", "aa"], "c": ["ca", "cd"]}
        ahead = copy.deepcopy(ways)
        lists = {text: ways[text] for text in ways}
        told = choices_counted(ways)
        self.assertEqual(ways, ahead)
        self.assertEqual(list(ways), list(ahead))
        self.assertTrue(all(ways[text] is lists[text] for text in ways))
        self.assertEqual(choices_counted(ways), told)

    def test_trees_stay(self):
        web = Web(["ab", "ac", "bc", "cb", "ba", "ca"])
        for tree in (["ba", "cb"], ["cb", "ba"], [], ["bc", "cb"]):
            handed = list(tree)
            is_tree(web, "a", handed)
            self.assertEqual(handed, tree)
        handed = ["ba", "cb"]
        tree_number(web, "a", handed)
        self.assertEqual(handed, ["ba", "cb"])

    def test_the_web_stays(self):
        words = ["ca", "ba", "cb", "bc", "ac", "ab"]
        web = Web(words)
        kept = web.words
        for piece in "abc":
            tree_count(web, piece)
            trees(web, piece)
            tree_number(web, piece, tree_by(web, piece, 2))
        self.assertIs(web.words, kept)
        self.assertEqual(web.words, ("ab", "ac", "ba", "bc", "ca", "cb"))
        self.assertEqual(words, ["ca", "ba", "cb", "bc", "ac", "ab"])

    def test_a_told_list_changed_and_asked_for_again(self):
        web = Web(["ab", "ac", "bc", "cb", "ba", "ca"])
        expected = [["ba", "ca"], ["ba", "cb"], ["bc", "ca"]]
        told = trees(web, "a")
        told[0].append("zz")
        told[1][0] = "zz"
        told.pop()
        self.assertEqual(trees(web, "a"), expected)
        tree = tree_by(web, "a", 1)
        tree.clear()
        self.assertEqual(tree_by(web, "a", 1), ["ba", "cb"])
        only = trees(Web(["aa"]), "a")
        only[0].append("aa")
        self.assertEqual(trees(Web(["aa"]), "a"), [[]])

    def test_no_two_told_trees_are_one_list(self):
        told = trees(Web(texts_of(2, 4)), "a")
        self.assertEqual(len({id(tree) for tree in told}), len(told))


if __name__ == "__main__":
    unittest.main()
