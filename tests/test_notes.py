import unittest

from penwright.errors import BadNote, NoWord
from penwright.notes import read, shown
from tests.helper import GREATEST, NO_WORDS, WORDS, some_words

WRITTEN = [
    ((), ""),
    ((("go", 0),), "go 0"),
    ((("go", 12),), "go 12"),
    ((("jump", 3),), "jump 3"),
    ((("jump", -3),), "jump -3"),
    ((("turn", 10),), "turn 10"),
    ((("turn", -1),), "turn -1"),
    ((("times", 2, ()),), "times 2 [ ]"),
    ((("times", 0, (("go", 1),)),), "times 0 [ go 1 ]"),
    ((("go", 3), ("turn", 1), ("times", 4, (("go", 2), ("turn", -1)))), "go 3 turn 1 times 4 [ go 2 turn -1 ]"),
    (
        (("times", 2, (("times", 3, ()), ("times", 4, (("go", 5),)), ("turn", 6))), ("jump", 7)),
        "times 2 [ times 3 [ ] times 4 [ go 5 ] turn 6 ] jump 7",
    ),
    ((("times", 1, (("times", 2, (("times", 3, (("times", 4, ()),)),)),)),), "times 1 [ times 2 [ times 3 [ times 4 [ ] ] ] ]"),
    ((("go", GREATEST), ("jump", -GREATEST)), "go 99999999999999999999 jump -99999999999999999999"),
]

MISWRITTEN = [
    # needless noughts and signs
    "go 01", "go 00", "go +1", "go +0", "turn -0", "turn -01", "turn --1", "jump -00", "turn +-1", "times 02 [ ]",
    "go 000000000000000000001",
    # what is no number by figures
    "go -", "go x", "go 1.0", "go 1_0", "go 1e2", "go 0x1", "go 1,000", "go one", "go 1-", "go []", "turn - 1",
    # blanks
    " ", "  ", " go 1", "go 1 ", "go  1", "go 1  turn 1", "times 2 [  ]", "times 2  [ ]", "times 2 [ ] ", "go\t1", "go 1\n",
    "times 2 [ go 1  ]",
    # brackets
    "[", "]", "[ ]", "[ go 1 ]", "go 1 ]", "] go 1", "times 2", "times 2 [", "times 2 ]", "times 2 ] [", "times 2 [ go 1",
    "times 2 [ ] ]", "times 2 [ [ ] ]", "times 2 [ [ go 1 ] ]", "times 2 [ times 3 [ ]", "times 2 go 1", "times 2 go 1 ]",
    "times 2[ ]", "times 2 []", "times 2 [ go 1]", "times 2 [go 1 ]", "times2 [ ]", "times 2 ( go 1 )", "times 2 [ ]go 1",
    "times 2 [ ] [ ]", "go 1 [ ]", "turn 1 [ go 1 ]", "times [ ] 2", "times 2 3 [ ]",
    # kinds
    "stay 1", "Go 1", "GO 1", "g 1", "go1", "1 go", "1", "-1", "times", "goto 1", "go, 1", "go 1, turn 1", "draw 1 [ ]",
    # numbers missing or too many
    "go", "jump", "turn", "go turn 1", "go 1 turn", "go 1 2", "times [ ]", "times [ go 1 ]", "times 2 [ go ]", "go go 1",
    # what is no word
    "go -1", "go -99999999999999999999", "times -1 [ ]", "times -1 [ go 1 ]",
    "go 100000000000000000000", "jump 100000000000000000000", "jump -100000000000000000000",
    "turn 100000000000000000000", "turn -100000000000000000000", "times 100000000000000000000 [ ]",
    "times 0 [ go -1 ]",
    " ".join(["go 1"] * 31),
    "times 1 [ " + " ".join(["go 1"] * 30) + " ]",
    "times 0 [ " + " ".join(["go 1"] * 30) + " ]",
    "times 1 [ " * 5 + "] ] ] ] ]",
    "times 0 [ " * 5 + "go 1 ] ] ] ] ]",
]


def written_without_check(word):
    """How any tuple of deeds would be written, word or not."""
    return " ".join(" ".join(written_part(part) for part in deed) for deed in word)


def written_part(part):
    if part == ():
        return "[ ]"
    return "[ " + written_without_check(part) + " ]" if isinstance(part, tuple) else str(part)


def has_empty_deed(word):
    return any(deed == () or any(isinstance(part, tuple) and has_empty_deed(part) for part in deed) for deed in word)


class Showing(unittest.TestCase):
    """Points 10 and 13."""

    def test_words_are_shown(self):
        for word, text in WRITTEN:
            with self.subTest(text=text):
                self.assertEqual(shown(word), text)

    def test_what_is_no_word_is_refused(self):
        for word in NO_WORDS:
            with self.subTest(word=word):
                with self.assertRaises(NoWord):
                    shown(word)


class Reading(unittest.TestCase):
    """Point 13."""

    def test_words_are_read(self):
        for word, text in WRITTEN:
            with self.subTest(text=text):
                self.assertEqual(read(text), word)

    def test_what_is_shown_is_read_as_the_same_word(self):
        for word in WORDS + some_words(400):
            with self.subTest(word=word):
                self.assertEqual(read(shown(word)), word)

    def test_thirty_deeds_and_four_deep(self):
        self.assertEqual(read(" ".join(["go 1"] * 30)), (("go", 1),) * 30)
        self.assertEqual(read("times 1 [ " + " ".join(["go 1"] * 29) + " ]"), (("times", 1, (("go", 1),) * 29),))

    def test_other_texts_are_refused(self):
        for text in MISWRITTEN:
            with self.subTest(text=text):
                with self.assertRaises(BadNote):
                    read(text)

    def test_texts_of_what_is_no_word_are_refused(self):
        for word in NO_WORDS:
            # An empty tuple as a deed leaves no mark of its own behind.
            if not has_empty_deed(word):
                text = written_without_check(word)
                with self.subTest(text=text):
                    with self.assertRaises(BadNote):
                        read(text)

    def test_long_texts_are_refused(self):
        for text in (
            "go " + "1" * 1997,
            "go " + "1" * 9000,
            "turn -" + "9" * 1990,
            "times 1 [ " * 200,
            "times 1 [ " * 150 + "] " * 149 + "]",
            "times 1 [ " * 5000,
            "] " * 1000,
            " " * 2000,
            "[" * 2000,
            "go 1 " * 400,
            "x" * 2000,
        ):
            with self.subTest(text=text[:20]):
                with self.assertRaises(BadNote):
                    read(text)

    def test_a_text_that_is_changed_by_one_sign_is_read_exactly_or_refused(self):
        text = "go 3 turn 1 times 4 [ go 2 turn -1 ] jump 10"
        signs = " -+0139[]gjts"
        for place in range(len(text) + 1):
            changed = [text[:place] + text[place + 1 :]]
            changed += [text[:place] + sign + text[place:] for sign in signs]
            changed += [text[:place] + sign + text[place + 1 :] for sign in signs]
            for other in changed:
                with self.subTest(text=other):
                    try:
                        word = read(other)
                    except BadNote:
                        continue
                    self.assertEqual(shown(word), other)


class NothingIsKept(unittest.TestCase):
    """Point 1."""

    def test_the_same_is_answered_whatever_was_asked_before(self):
        first = [read(text) for _, text in WRITTEN]
        for text in MISWRITTEN:
            with self.assertRaises(BadNote):
                read(text)
        again = [read(text) for _, text in reversed(WRITTEN)]
        self.assertEqual(first, again[::-1])

    def test_words_are_tuples_throughout(self):
        def assert_word(word):
            self.assertIs(type(word), tuple)
            for deed in word:
                self.assertIs(type(deed), tuple)
                self.assertIs(type(deed[0]), str)
                self.assertIs(type(deed[1]), int)
                if deed[0] == "times":
                    assert_word(deed[2])

        for _, text in WRITTEN:
            assert_word(read(text))
