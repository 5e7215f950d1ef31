"""Points 0.4 and 0.5: the classes of the refusals."""

import unittest

from onceround import errors

OF_A_TEXT = ("BadKinds", "BadWord", "TooMany", "NotOne", "NoSuch", "BadRule", "BadDeed")
ALL = OF_A_TEXT + ("NoRing", "BadText")


def made(name):
    found = getattr(errors, name)
    if name == "NoRing":
        return found("words", ("apart", ("ab", "ba")))
    if name == "BadText":
        return found("words", 3)
    return found("words")


class Classes(unittest.TestCase):
    def test_any_refusal_stands_beneath_value_error(self):
        self.assertEqual(errors.OnceError.__bases__, (ValueError,))
        self.assertEqual(str(errors.OnceError("words")), "words")

    def test_each_stands_straight_beneath_once_error(self):
        for name in ALL:
            with self.subTest(name):
                self.assertEqual(getattr(errors, name).__bases__, (errors.OnceError,))

    def test_none_stands_beneath_another_one(self):
        for name in ALL:
            for other in ALL:
                with self.subTest(name=name, other=other):
                    beneath = issubclass(getattr(errors, name), getattr(errors, other))
                    self.assertEqual(beneath, name == other)

    def test_each_is_made_raised_and_taken_by_its_name(self):
        for name in ALL:
            with self.subTest(name):
                with self.assertRaises(getattr(errors, name)) as taken:
                    raise made(name)
                self.assertIsInstance(taken.exception, errors.OnceError)
                self.assertIsInstance(taken.exception, ValueError)
                self.assertEqual(str(taken.exception), "words")

    def test_the_file_holds_no_other_refusal(self):
        held = [name for name, value in vars(errors).items() if isinstance(value, type)]
        self.assertEqual(sorted(held), sorted(ALL + ("OnceError",)))


class Fields(unittest.TestCase):
    def test_no_ring_has_its_paper(self):
        for paper in (("uneven", ("a",)), ("apart", ("", "ab", "ba")), ("uneven", ())):
            with self.subTest(paper):
                self.assertEqual(errors.NoRing("words", paper).paper, paper)

    def test_bad_text_has_its_row(self):
        for at in (1, 2, 20000, 10 ** 59):
            with self.subTest(at):
                found = errors.BadText("words", at).at
                self.assertEqual(found, at)
                self.assertIs(type(found), int)

    def test_each_object_has_its_own(self):
        one = errors.NoRing("one", ("uneven", ("a",)))
        two = errors.NoRing("two", ("apart", ("b",)))
        self.assertEqual((one.paper, two.paper), (("uneven", ("a",)), ("apart", ("b",))))
        three = errors.BadText("three", 3)
        four = errors.BadText("four", 4)
        self.assertEqual((three.at, four.at), (3, 4))


if __name__ == "__main__":
    unittest.main()
