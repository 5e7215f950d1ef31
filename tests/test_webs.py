"""Points 3.1, 3.2 and 3.4 (excess), and 0.2 to 0.6 as far as they touch these."""

import itertools
import unittest

from onceround.errors import BadWord, NoSuch, OnceError, TooMany
from onceround.webs import Web, begin_of, end_of, excess, hanging, ins, outs, pieces

STRANGE_SIGNS = ("g", "z", "A", "F", "`", " ", "\n", "\0", "0", "1", "-", "\u00e4", "\u0430", "\ud800", "\U0001f600")
NO_PIECES = ("", "a", "x", "aaaa", "?", "abcdefabc", "zz", " ")


def words_in_order(length, kinds):
    return ["".join(signs) for signs in itertools.product("abcdef"[:kinds], repeat=length)]


# Webs of all sorts: one word, one letter, loops, chains told from either side, parts that lie apart, 64 words.
WORD_SETS = (
    ("a",), ("f",), ("a", "c", "f"), ("a", "b", "c", "d", "e", "f"), ("aa",), ("ab",), ("ab", "ba"), ("aa", "bb"),
    ("ab", "bc", "cd", "de", "ef"), ("ba", "cb", "dc", "ed", "fe"), ("ab", "cb", "cd", "ed", "ef"), ("ab", "ac", "ad"),
    ("ab", "cd", "ef"), ("aa", "ab", "bb", "cc", "cd", "dc"), ("af", "bf", "cf", "fd", "fe"), ("aaa",), ("aba", "bab"),
    ("aab", "aba", "baa", "bbb"), ("abc", "bca", "cab", "def", "efd", "fde"), ("abcdefab",), ("aaaaaaaa", "aaaaaaab"),
    ("abcdefab", "bcdefabc", "cdefabcd", "fffffffe"), tuple(words_in_order(6, 2)), tuple(words_in_order(3, 4)),
    tuple(words_in_order(2, 6)), tuple(words_in_order(8, 2)[::4]), tuple(words_in_order(4, 3)[5:69]),
)


def slow_pieces(words):
    return sorted({word[:-1] for word in words} | {word[1:] for word in words})


def slow_hanging(words, piece):
    """Point 3.2 as it stands: pairs of pieces that hang together, and pairs made of these by way of a third one."""
    found = slow_pieces(words)
    together = {(one, one) for one in found}
    together |= {(word[:-1], word[1:]) for word in words} | {(word[1:], word[:-1]) for word in words}
    for third in found:
        near = [one for one in found if (one, third) in together]
        together |= {(one, two) for one in near for two in near}
    return [one for one in found if (one, piece) in together]


class Case(unittest.TestCase):
    def refused(self, refusal, deed, *handed):
        with self.assertRaises(OnceError) as taken:
            deed(*handed)
        self.assertIs(type(taken.exception), refusal)

    def is_whole(self, found, awaited):
        self.assertIs(type(found), int)
        self.assertEqual(found, awaited)

    def is_list(self, found, awaited):
        self.assertIs(type(found), list)
        self.assertEqual(found, awaited)


class Made(Case):
    """Point 3.1: what a web is made of."""

    def test_of_a_list_and_of_a_tuple_in_any_order(self):
        for words in WORD_SETS:
            for handed in (list(words), tuple(words), list(words)[::-1], tuple(words)[::-1], words[1:] + words[:1]):
                web = Web(handed)
                self.assertIs(type(web.words), tuple)
                self.assertEqual(web.words, tuple(sorted(words)))
                self.is_whole(web.length, len(words[0]))

    def test_each_order_of_some_words(self):
        for handed in itertools.permutations(("ab", "ba", "cc", "af")):
            self.assertEqual(Web(handed).words, ("ab", "af", "ba", "cc"))
            self.assertEqual(Web(list(handed)).words, ("ab", "af", "ba", "cc"))

    def test_one_64_and_65_words(self):
        words = words_in_order(7, 2)
        self.assertEqual(Web(words[:1]).words, ("aaaaaaa",))
        self.assertEqual(Web(words[:63]).words, tuple(words[:63]))
        self.assertEqual(Web(words[:64]).words, tuple(words[:64]))
        self.assertEqual(Web(words[64:]).words, tuple(words[64:]))
        for handed in (words[:65], tuple(words[:65]), words, ["a"] * 65, words_in_order(4, 6)):
            self.refused(TooMany, Web, handed)

    def test_no_word(self):
        self.refused(BadWord, Web, [])
        self.refused(BadWord, Web, ())

    def test_a_word_without_letters(self):
        for handed in ([""], ("",), ["", ""], ["a", ""], ["", "a"], ["ab", "", "ba"]):
            self.refused(BadWord, Web, handed)

    def test_words_of_each_length(self):
        for length in range(1, 9):
            for words in (["a" * length], ["a" * length, "f" * length], ["abcdefab"[:length]]):
                self.is_whole(Web(words).length, length)
                self.assertEqual(Web(words).words, tuple(words))

    def test_words_of_9_letters_and_more(self):
        for length in (9, 10, 24, 25, 200):
            self.refused(BadWord, Web, ["a" * length])
            self.refused(BadWord, Web, ("a" * length, "b" * length))

    def test_words_of_unlike_lengths(self):
        for handed in (["a", "bb"], ["bb", "a"], ["ab", "ba", "aba"], ["abcdefab", "abcdefa"], ["ab", "ba", "b"]):
            self.refused(BadWord, Web, handed)
            self.refused(BadWord, Web, tuple(handed))

    def test_a_word_told_twice(self):
        for handed in (["a", "a"], ["ab", "ba", "ab"], ["ab", "ba", "ba"], ["f" * 8, "a" * 8, "f" * 8]):
            self.refused(BadWord, Web, handed)
            self.refused(BadWord, Web, tuple(handed))
        words = words_in_order(6, 2)
        self.refused(BadWord, Web, words[:63] + words[:1])

    def test_a_sign_that_is_no_letter(self):
        for sign in STRANGE_SIGNS:
            for handed in ([sign], ["a", sign], [sign, "a"], ["ab", sign + "a"], ["a" + sign, "ab"], ["a" * 7 + sign]):
                self.refused(BadWord, Web, handed)

    def test_each_letter_may_stand_in_a_word(self):
        self.assertEqual(Web(list("fedcba")).words, tuple("abcdef"))

    def test_too_many_goes_ahead_of_bad_word(self):
        words = words_in_order(7, 2)
        for wrong in ("", "a" * 9, "a", "g" * 7, words[0], "a" * 30):
            self.refused(TooMany, Web, words[:64] + [wrong])
            self.refused(TooMany, Web, [wrong] + words[:64])
            self.refused(BadWord, Web, words[:63] + [wrong])
            self.refused(BadWord, Web, [wrong] + words[:63])
        self.refused(TooMany, Web, [""] * 65)
        self.refused(BadWord, Web, [""] * 64)

    def test_what_is_handed_in_stays(self):
        handed = ["ba", "ab", "aa"]
        Web(handed)
        self.assertEqual(handed, ["ba", "ab", "aa"])

    def test_changed_behind_it_changes_nothing(self):
        handed = ["ba", "ab"]
        web = Web(handed)
        handed.append("x")
        handed[0] = "ff"
        handed.reverse()
        self.assertEqual(web.words, ("ab", "ba"))
        self.assertEqual(pieces(web), ["a", "b"])
        handed.clear()
        self.assertEqual(web.words, ("ab", "ba"))
        self.assertEqual(web.length, 2)

    def test_each_web_has_its_own(self):
        one = Web(["a"])
        two = Web(["bb", "cc"])
        self.assertEqual((one.words, one.length, two.words, two.length), (("a",), 1, ("bb", "cc"), 2))


class BeginsAndEnds(Case):
    """Point 3.1."""

    def test_of_words(self):
        for word, begin, end in (
            ("a", "", ""), ("f", "", ""), ("ab", "a", "b"), ("aa", "a", "a"), ("abc", "ab", "bc"),
            ("abcdefab", "abcdefa", "bcdefab"), ("abcdefabc", "abcdefab", "bcdefabc"), ("a" * 24, "a" * 23, "a" * 23),
        ):
            self.assertEqual(begin_of(word), begin)
            self.assertEqual(end_of(word), end)


class Pieces(Case):
    """Point 3.1."""

    def test_told_examples(self):
        self.is_list(pieces(Web(["a"])), [""])
        self.is_list(pieces(Web(["a", "b", "f"])), [""])
        self.is_list(pieces(Web(["aa"])), ["a"])
        self.is_list(pieces(Web(["ba"])), ["a", "b"])
        self.is_list(pieces(Web(["fed", "abc"])), ["ab", "bc", "ed", "fe"])

    def test_begins_and_ends_ascending(self):
        for words in WORD_SETS:
            self.is_list(pieces(Web(words)), slow_pieces(words))

    def test_outs_and_ins_of_each_piece(self):
        for words in WORD_SETS:
            web = Web(words[::-1])
            for piece in slow_pieces(words):
                self.is_list(outs(web, piece), sorted(word for word in words if word[:-1] == piece))
                self.is_list(ins(web, piece), sorted(word for word in words if word[1:] == piece))

    def test_outs_and_ins_of_other_texts(self):
        for words in WORD_SETS:
            web = Web(words)
            for text in NO_PIECES:
                if text not in slow_pieces(words):
                    self.is_list(outs(web, text), [])
                    self.is_list(ins(web, text), [])

    def test_pieces_by_which_none_goes_or_none_comes(self):
        web = Web(["ab", "cb"])
        self.is_list(outs(web, "b"), [])
        self.is_list(ins(web, "b"), ["ab", "cb"])
        self.is_list(ins(web, "a"), [])
        self.is_list(outs(web, "a"), ["ab"])

    def test_words_of_one_letter(self):
        web = Web(["c", "a"])
        self.is_list(outs(web, ""), ["a", "c"])
        self.is_list(ins(web, ""), ["a", "c"])
        self.is_list(outs(web, "a"), [])

    def test_told_lists_are_the_askers_own(self):
        web = Web(["ab", "ba", "aa"])
        for deed, handed, awaited in (
            (pieces, (), ["a", "b"]), (outs, ("a",), ["aa", "ab"]), (ins, ("a",), ["aa", "ba"]),
            (hanging, ("a",), ["a", "b"]),
        ):
            one = deed(web, *handed)
            two = deed(web, *handed)
            one.reverse()
            one.append("x")
            self.assertEqual(two, awaited)
            two.clear()
            self.assertEqual(deed(web, *handed), awaited)
        self.assertEqual(web.words, ("aa", "ab", "ba"))


class Excess(Case):
    """Point 3.4."""

    def test_told_examples(self):
        web = Web(["ab", "ac", "ad", "ba", "cc"])
        self.is_whole(excess(web, ["a"]), 2)
        self.is_whole(excess(web, ["b"]), 0)
        self.is_whole(excess(web, ["c"]), -1)
        self.is_whole(excess(web, ["d"]), -1)
        self.is_whole(excess(web, ["c", "d"]), -2)
        self.is_whole(excess(web, ["a", "d"]), 1)
        self.is_whole(excess(web, ["a", "b", "c", "d"]), 0)

    def test_each_set_of_pieces(self):
        for words in WORD_SETS:
            web = Web(words)
            found = slow_pieces(words)[:6]
            for size in range(len(found) + 1):
                for some in itertools.combinations(found, size):
                    begun = sum(word[:-1] in some for word in words)
                    ended = sum(word[1:] in some for word in words)
                    self.is_whole(excess(web, some), begun - ended)
                    self.is_whole(excess(web, list(some)), begun - ended)
                    self.is_whole(excess(web, some[::-1]), begun - ended)
                    self.is_whole(excess(web, some), sum(excess(web, [piece]) for piece in some))

    def test_all_pieces_have_none(self):
        for words in WORD_SETS:
            self.is_whole(excess(Web(words), slow_pieces(words)), 0)

    def test_no_pieces(self):
        for words in WORD_SETS:
            self.is_whole(excess(Web(words), []), 0)
            self.is_whole(excess(Web(words), ()), 0)

    def test_texts_that_are_no_pieces_count_for_nothing(self):
        web = Web(["ab", "ac"])
        self.is_whole(excess(web, ["x", "", "ab", "d", "abc"]), 0)
        self.is_whole(excess(web, ("a", "x", "", "ab", "d")), 2)
        self.is_whole(excess(web, ["zz", "b", "f"]), -1)
        self.is_whole(excess(Web(["a", "b"]), ["a", "b"]), 0)

    def test_what_is_handed_in_stays(self):
        some = ["b", "a", "x"]
        excess(Web(["ab", "ac"]), some)
        self.assertEqual(some, ["b", "a", "x"])


class Hanging(Case):
    """Point 3.2."""

    def test_told_examples(self):
        web = Web(["ab", "cb", "dd", "ef"])
        self.is_list(hanging(web, "a"), ["a", "b", "c"])
        self.is_list(hanging(web, "b"), ["a", "b", "c"])
        self.is_list(hanging(web, "c"), ["a", "b", "c"])
        self.is_list(hanging(web, "d"), ["d"])
        self.is_list(hanging(web, "e"), ["e", "f"])
        self.is_list(hanging(web, "f"), ["e", "f"])
        self.is_list(hanging(Web(["a", "f"]), ""), [""])

    def test_words_are_gone_either_way(self):
        for words in ("ab bc cd", "ba cb dc", "ab cb cd", "ba bc dc", "da db dc", "ad bd cd"):
            for piece in "abcd":
                self.is_list(hanging(Web(words.split()), piece), ["a", "b", "c", "d"])

    def test_each_piece_of_each_web(self):
        for words in WORD_SETS:
            for piece in slow_pieces(words):
                with self.subTest(words=words, piece=piece):
                    self.is_list(hanging(Web(words), piece), slow_hanging(words, piece))

    def test_all_small_webs(self):
        every = words_in_order(2, 3)
        for size in range(1, 5):
            for words in itertools.combinations(every, size):
                for piece in slow_pieces(words):
                    self.is_list(hanging(Web(words), piece), slow_hanging(words, piece))

    def test_a_long_chain(self):
        text = "aabacadaeafbbcbdbebfccdcecfddedfeeff"
        words = sorted({text[place:place + 3] for place in range(len(text) - 2)})
        for piece in slow_pieces(words):
            self.is_list(hanging(Web(words), piece), slow_pieces(words))

    def test_texts_that_are_no_pieces_are_refused(self):
        for words in WORD_SETS:
            web = Web(words)
            for text in NO_PIECES + words:
                if text not in slow_pieces(words):
                    self.refused(NoSuch, hanging, web, text)


if __name__ == "__main__":
    unittest.main()
