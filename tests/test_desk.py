import random
import unittest

from penwright.desk import Desk
from penwright.notes import read, shown
from penwright.pictures import parting_stroke, picture_of, same_shape
from penwright.trails import trails_needed
from penwright.words import pen_after, strokes_drawn
from tests.helper import GREATEST, WORDS, count, plain_deeds, slowly_drawn, some_words

SQUARE_TEXT = "times 4 [ go 2 turn 1 ]"
ALL_NINES = "9" * 20


def desk_with(**texts):
    """A desk that keeps the words of these texts."""
    desk = Desk()
    for name, text in texts.items():
        assert desk.say(f"keep {name} {text}" if text else f"keep {name}") == "kept"
    return desk


class Asking(unittest.TestCase):
    def assert_answers(self, desk, pairs):
        for line, answer in pairs:
            told = desk.say(line)
            self.assertIs(type(told), str)
            self.assertEqual(told, answer, line)

    def assert_changes_nothing(self, desk, line, answer):
        before = desk.all_words()
        self.assertEqual(desk.say(line), answer, line)
        self.assertEqual(desk.all_words(), before, line)


class KeepShowDrop(Asking):
    """Point 85."""

    def test_keep_and_show(self):
        self.assert_answers(
            Desk(),
            [
                ("keep box " + SQUARE_TEXT, "kept"),
                ("show box", SQUARE_TEXT),
                ("keep a go 3", "kept"),
                ("show a", "go 3"),
                ("keep zzzzzzzz jump -5 turn -1", "kept"),
                ("show zzzzzzzz", "jump -5 turn -1"),
                ("show box", SQUARE_TEXT),
            ],
        )

    def test_words_without_deeds(self):
        desk = Desk()
        self.assert_answers(
            desk,
            [
                ("keep a", "kept"),
                ("show a", ""),
                ("keep abcdefgh", "kept"),
                ("show abcdefgh", ""),
                ("pen a", "0 0 0"),
                ("drawn a", "0"),
                ("strokes a", "0"),
                ("trails a", "0"),
                ("same a abcdefgh", "same"),
                ("shape a abcdefgh", "yes"),
                ("join b a abcdefgh", "kept"),
                ("show b", ""),
                ("names", "a abcdefgh b"),
            ],
        )
        self.assertEqual(desk.all_words(), {"a": (), "abcdefgh": (), "b": ()})

    def test_every_word(self):
        desk = Desk()
        for word in WORDS + some_words(40):
            text = shown(word)
            self.assertEqual(desk.say(f"keep it {text}" if word else "keep it"), "kept")
            self.assertEqual(desk.say("show it"), text)
            self.assertEqual(desk.all_words(), {"it": word})

    def test_a_name_kept_again(self):
        desk = desk_with(a="go 1", b="go 2")
        self.assert_answers(desk, [("keep a turn 3", "kept"), ("show a", "turn 3"), ("names", "a b")])
        self.assert_answers(desk, [("keep a", "kept"), ("show a", ""), ("names", "a b")])
        self.assertEqual(desk.all_words(), {"a": (), "b": (("go", 2),)})

    def test_drop(self):
        desk = desk_with(a="go 1", b="go 2", abcdefgh="")
        self.assert_answers(
            desk,
            [
                ("drop a", "dropped"),
                ("names", "abcdefgh b"),
                ("show a", "no such name"),
                ("drop a", "no such name"),
                ("drop abcdefgh", "dropped"),
                ("show b", "go 2"),
                ("drop b", "dropped"),
                ("names", "none"),
                ("keep a go 7", "kept"),
                ("show a", "go 7"),
            ],
        )

    def test_names_that_are_like_lines(self):
        desk = Desk()
        names = "keep drop join show names pen drawn strokes trails same shape none go".split()
        for name in names:
            self.assert_answers(desk, [(f"keep {name} go 2 turn 1", "kept"), (f"show {name}", "go 2 turn 1")])
        self.assertEqual(desk.say("names"), " ".join(sorted(names)))
        self.assert_answers(desk, [("join keep keep drop", "kept"), ("pen keep", "2 2 2"), ("drop names", "dropped")])


class Join(Asking):
    """Point 85."""

    def test_the_first_word_then_the_second(self):
        desk = desk_with(a="go 1 turn 1", b="jump 2 times 3 [ turn 2 ]")
        self.assert_answers(
            desk,
            [
                ("join c a b", "kept"),
                ("show c", "go 1 turn 1 jump 2 times 3 [ turn 2 ]"),
                ("join d b a", "kept"),
                ("show d", "jump 2 times 3 [ turn 2 ] go 1 turn 1"),
                ("show a", "go 1 turn 1"),
                ("show b", "jump 2 times 3 [ turn 2 ]"),
                ("names", "a b c d"),
            ],
        )

    def test_to_itself(self):
        desk = desk_with(a="go 1 turn 1")
        twice = "go 1 turn 1 go 1 turn 1"
        self.assert_answers(desk, [("join b a a", "kept"), ("show b", twice), ("show a", "go 1 turn 1")])
        self.assert_answers(desk, [("join a a a", "kept"), ("show a", twice), ("names", "a b")])

    def test_to_a_name_that_it_is_made_of(self):
        for new, asked in [("a", {"a": "go 1 turn 2", "b": "turn 2"}), ("b", {"a": "go 1", "b": "go 1 turn 2"})]:
            desk = desk_with(a="go 1", b="turn 2")
            self.assertEqual(desk.say(f"join {new} a b"), "kept")
            self.assertEqual(desk.all_words(), {name: read(text) for name, text in asked.items()})

    def test_over_another_name(self):
        desk = desk_with(a="go 1", b="turn 2", c="jump 9")
        self.assert_answers(desk, [("join c b a", "kept"), ("show c", "turn 2 go 1")])

    def test_what_was_joined_stays(self):
        desk = desk_with(a="go 1", b="turn 2")
        self.assert_answers(desk, [("join c a b", "kept"), ("drop a", "dropped"), ("keep b", "kept")])
        self.assertEqual(desk.say("show c"), "go 1 turn 2")

    def test_names_of_eight_letters(self):
        desk = desk_with(abcdefgh="go 1", hgfedcba="turn 2")
        self.assert_answers(desk, [("join zyxwvuts abcdefgh hgfedcba", "kept"), ("show zyxwvuts", "go 1 turn 2")])

    def test_thirty_deeds_and_thirty_one(self):
        many = " ".join(["go 1"] * 15)
        within = "times 0 [ " + "turn 1 " * 14 + "]"
        desk = desk_with(a=many, b=many + " go 1", c=within)
        self.assert_answers(desk, [("join d a a", "kept"), ("show d", many + " " + many)])
        self.assert_answers(desk, [("join e c a", "kept"), ("show e", within + " " + many)])
        for new in ("a", "e", "new"):
            for names in ("a b", "b a", "b b", "b c", "c b", "d a", "a d"):
                self.assert_changes_nothing(desk, f"join {new} {names}", "too great")
        self.assertEqual(desk.say("names"), "a b c d e")

    def test_deep_times(self):
        deep = "times 2 [ times 2 [ times 2 [ times 2 [ go 1 ] ] ] ]"
        desk = desk_with(a=deep)
        self.assert_answers(desk, [("join a a a", "kept"), ("show a", deep + " " + deep)])

    def test_great_words_are_joined(self):
        great = f"times {ALL_NINES} [ go {ALL_NINES} ]"
        desk = desk_with(a=great)
        self.assert_answers(desk, [("join b a a", "kept"), ("show b", great + " " + great)])


class Names(Asking):
    """Point 85."""

    def test_of_none(self):
        self.assertEqual(Desk().say("names"), "none")

    def test_in_the_order_of_texts(self):
        desk = Desk()
        for name in ["b", "abc", "ab", "z", "a", "aaaaaaaa", "ba", "zz"]:
            desk.say("keep " + name)
        self.assertEqual(desk.say("names"), "a aaaaaaaa ab abc b ba z zz")
        desk.say("drop ab")
        self.assertEqual(desk.say("names"), "a aaaaaaaa abc b ba z zz")

    def test_of_many(self):
        chance = random.Random(85)
        desk = Desk()
        names = set()
        for _ in range(300):
            name = "".join(chance.choice("abcxyz") for _ in range(chance.randint(1, 8)))
            names.add(name)
            self.assertEqual(desk.say("keep " + name), "kept")
        self.assertEqual(desk.say("names"), " ".join(sorted(names)))


class Questions(Asking):
    """Point 85."""

    def test_pen(self):
        desk = desk_with(a="go 3 turn 1 go 2", b="jump -5 turn -1", c=f"times {ALL_NINES} [ go {ALL_NINES} turn 4 ]")
        self.assert_answers(desk, [("pen a", "3 2 1"), ("pen b", "-5 0 3"), ("pen c", f"{GREATEST * GREATEST} 0 0")])

    def test_drawn(self):
        desk = desk_with(a="go 3 jump -3 go 3", b="turn 1", c=f"times {ALL_NINES} [ go {ALL_NINES} turn 1 ]")
        self.assert_answers(desk, [("drawn a", "6"), ("drawn b", "0"), ("drawn c", str(GREATEST * GREATEST))])

    def test_strokes(self):
        desk = desk_with(a="go 3 jump -3 go 4", b="turn 1", c=SQUARE_TEXT, d="times 50 [ go 2 turn 1 ]", e="go 400")
        answers = [("strokes a", "4"), ("strokes b", "0"), ("strokes c", "8"), ("strokes d", "8"), ("strokes e", "400")]
        self.assert_answers(desk, answers)

    def test_trails(self):
        cross = "times 4 [ go 1 jump -1 turn 1 ]"
        desk = desk_with(a="go 3 jump 1 go 4", b="turn 1", c=SQUARE_TEXT, d=cross, e="go 3 jump -3 go 3")
        answers = [("trails a", "2"), ("trails b", "0"), ("trails c", "1"), ("trails d", "2"), ("trails e", "1")]
        self.assert_answers(desk, answers)

    def test_same(self):
        desk = desk_with(a=SQUARE_TEXT, b="times 8 [ go 2 turn 1 ]", c="go 2", d="jump 2 turn 2 go 2", e="")
        desk.say("keep f turn 2 go 1")
        self.assert_answers(
            desk,
            [
                ("same a a", "same"),
                ("same a b", "same"),
                ("same b a", "same"),
                ("same c d", "same"),
                ("same e e", "same"),
                ("same a c", "unlike at 0 0 1"),
                ("same c a", "unlike at 0 0 1"),
                ("same c e", "unlike at 0 0 0"),
                ("same e c", "unlike at 0 0 0"),
                ("same c f", "unlike at -1 0 0"),
                ("same f c", "unlike at -1 0 0"),
            ],
        )
        far = desk_with(a=f"jump {ALL_NINES} go 1", b=f"jump -{ALL_NINES} turn 1 go 1")
        self.assert_answers(far, [("same a b", f"unlike at -{ALL_NINES} 0 1"), ("same a a", "same")])

    def test_shape(self):
        desk = desk_with(a="go 2 turn 1 go 1", b="jump 7 turn 2 go 2 turn -1 go 1", d="go 3", e="", f="turn 1")
        desk.say("keep c go 2 turn -1 go 1")
        self.assert_answers(desk, [(f"shape {names}", "yes") for names in ("a b", "a c", "b c", "a a", "e e", "e f")])
        self.assert_answers(desk, [(f"shape {names}", "no") for names in ("a d", "d a", "e a", "a e", "d f")])

    def test_names_of_eight_letters(self):
        desk = desk_with(abcdefgh=SQUARE_TEXT, zzzzzzzz="go 1")
        self.assert_answers(
            desk,
            [
                ("show abcdefgh", SQUARE_TEXT),
                ("pen abcdefgh", "0 0 0"),
                ("drawn abcdefgh", "8"),
                ("strokes abcdefgh", "8"),
                ("trails abcdefgh", "1"),
                ("same abcdefgh zzzzzzzz", "unlike at 0 0 1"),
                ("shape zzzzzzzz abcdefgh", "no"),
                ("names", "abcdefgh zzzzzzzz"),
                ("drop zzzzzzzz", "dropped"),
            ],
        )

    def test_questions_change_nothing(self):
        desk = desk_with(a=SQUARE_TEXT, b="go 1")
        lines = ["show a", "names", "pen a", "drawn a", "strokes a", "trails a", "same a b", "shape a b"]
        for line in lines:
            self.assert_changes_nothing(desk, line, desk.say(line))

    def test_as_the_modules_tell(self):
        words = [word for word in some_words(60) if len(plain_deeds(word)) <= 400 and len(slowly_drawn(word)) <= 400]
        desk = Desk()
        for one, other in zip(words, words[1:] + words[:1]):
            for name, word in [("one", one), ("other", other)]:
                self.assertEqual(desk.say(f"keep {name} {shown(word)}" if word else f"keep {name}"), "kept")
            strokes = set(slowly_drawn(one))
            parting = strokes ^ set(slowly_drawn(other))
            x, y, way = min(parting) if parting else (0, 0, 0)
            pen_x, pen_y, heading = pen_after(one)
            self.assert_answers(
                desk,
                [
                    ("pen one", f"{pen_x} {pen_y} {heading}"),
                    ("drawn one", str(strokes_drawn(one))),
                    ("strokes one", str(len(strokes))),
                    ("trails one", str(trails_needed(tuple(sorted(strokes))))),
                    ("same one other", f"unlike at {x} {y} {way}" if parting else "same"),
                    ("shape one other", "yes" if same_shape(picture_of(one), picture_of(other)) else "no"),
                ],
            )
            self.assertEqual(parting_stroke(picture_of(one), picture_of(other)), (x, y, way) if parting else None)


BAD_NAMES = ["", "abcdefghi", "abcdefghijklmnop", "a1", "1", "A", "aB", "abcDefgh", "a-b", "a_b", "a.b", "[", "-", "~", "ab!"]

BAD_LINES = [
    "", " ", "  ", "keep", "keep ", "keep  ", "drop", "drop ", "join", "join ", "show", "show ", "pen", "drawn", "strokes",
    "trails", "same", "shape", "same ", "shape ",
    # no such line
    "hold a", "Keep a go 1", "KEEP a", "kept a", "a", "go 1", "names a", "names ", " names", "Names", "name", "help", "none",
    "area a", "box a", "turn a", "shows a", "unlike a b", "read a", "names a b", "all_words", "say names", "?",
    # blanks too many
    " keep a", "keep  a", "keep a ", "keep a  ", "keep a  go 1", "keep a go 1 ", "keep a go  1", " show a", "show  a", "show a ",
    "drop  a", "drop a ", "pen a ", "pen  a", "drawn a ", "strokes a ", "trails a ", "same a  b", "same  a b", "same a b ",
    "shape a  b", "shape a b ", "join c a  b", "join  c a b", "join c a b ", "join c  a b", "show\ta",
    # names too few or too many
    "drop a b", "show a b", "pen a b", "drawn a b", "strokes a b", "trails a b", "same a", "same a b a", "shape a",
    "shape a b a", "join a", "join a b", "join c a b a", "show a go 1",
    # texts that write no word
    "keep a b", "keep a go", "keep a go x", "keep a go -1", "keep a go 01", "keep a go +1", "keep a go 1 turn", "keep a [ ]",
    "keep a times 2", "keep a times 2 [", "keep a times 2 [ go 1", "keep a times 2 ]", "keep a times -1 [ ]", "keep a jump -0",
    "keep a go 1" + "0" * 20, "keep a" + " go 1" * 31, "keep a" + " times 2 [" * 5 + " ]" * 5, "keep a stay 1", "keep a go1",
]


class BadLines(Asking):
    """Point 86."""

    def test_bad_lines(self):
        desk = desk_with(a="go 1", b="turn 1")
        for line in BAD_LINES:
            with self.subTest(line=line):
                self.assert_changes_nothing(desk, line, "bad line")
                self.assert_changes_nothing(Desk(), line, "bad line")

    def test_bad_names(self):
        desk = desk_with(a="go 1", b="turn 1")
        forms = [
            "keep {}", "keep {} go 1", "drop {}", "show {}", "pen {}", "drawn {}", "strokes {}", "trails {}", "same {} a",
            "same a {}", "shape {} a", "shape a {}", "join {} a b", "join c {} b", "join c a {}", "same {} {}", "join {} {} {}",
        ]
        for name in BAD_NAMES:
            for form in forms:
                with self.subTest(line=form.format(name, name, name)):
                    self.assert_changes_nothing(desk, form.format(name, name, name), "bad line")

    def test_ahead_of_no_such_name(self):
        desk = desk_with(a="go 1")
        for line in ["same x Y", "same X y", "join Q x y", "join q x Y", "show x ", "drop x y", "pen x y", "shape x y z"]:
            self.assert_changes_nothing(desk, line, "bad line")

    def test_ahead_of_too_great(self):
        desk = desk_with(great="go 401", long=" ".join(["go 1"] * 16))
        for line in ["strokes great great", "same great Great", "shape great", "join A long long", "trails great "]:
            self.assert_changes_nothing(desk, line, "bad line")


class NoSuchName(Asking):
    """Point 86."""

    def test_names_that_are_not_kept(self):
        desk = desk_with(a="go 1", b="turn 1", abcdefgh="go 2")
        lines = [
            "drop x", "show x", "pen x", "drawn x", "strokes x", "trails x", "same x a", "same a x", "same x y", "same x x",
            "shape x a", "shape a x", "shape x x", "join c x a", "join c a x", "join c c a", "join c a c", "join c x x",
            "join a x a", "join a a x", "show abcdefg", "show aa", "show names", "drop none", "show bcdefgh",
        ]
        for line in lines:
            with self.subTest(line=line):
                self.assert_changes_nothing(desk, line, "no such name")
        for line in ["drop a", "show a", "pen a", "drawn a", "strokes a", "trails a", "same a a", "shape a a", "join a a a"]:
            self.assert_changes_nothing(Desk(), line, "no such name")

    def test_ahead_of_too_great(self):
        desk = desk_with(great="go 401", long=" ".join(["go 1"] * 30))
        for line in ["same great x", "same x great", "shape great x", "shape x great", "join c long x", "join c x long"]:
            self.assert_changes_nothing(desk, line, "no such name")


class TooGreat(Asking):
    """Point 86."""

    def test_words_that_are_not_small(self):
        texts = ["go 401", "go 400 go 1", "times 401 [ turn 1 ]", "times 201 [ go 1 turn 1 ]"]
        for text in texts + [f"times {ALL_NINES} [ go 1 ]"]:
            desk = desk_with(great=text, a="go 1")
            lines = ["strokes great", "trails great", "same great a", "same a great", "same great great"]
            for line in lines + ["shape great a", "shape a great", "shape great great"]:
                with self.subTest(text=text, line=line):
                    self.assert_changes_nothing(desk, line, "too great")
            self.assertEqual(desk.say("show great"), text)
            self.assertEqual(desk.say("drawn great"), str(strokes_drawn(read(text))))
            x, y, heading = pen_after(read(text))
            self.assertEqual(desk.say("pen great"), f"{x} {y} {heading}")

    def test_words_that_are_just_small(self):
        desk = desk_with(a="go 400", b="times 400 [ turn 1 ]", c="times 200 [ go 2 turn 1 ]")
        self.assert_answers(
            desk,
            [
                ("strokes a", "400"),
                ("trails a", "1"),
                ("strokes b", "0"),
                ("trails b", "0"),
                ("strokes c", "8"),
                ("same a b", "unlike at 0 0 0"),
                ("shape b a", "no"),
            ],
        )

    def test_a_joined_one_that_is_no_word(self):
        desk = desk_with(a="go 1", b=" ".join(["turn 1"] * 30))
        for line in ["join c a b", "join c b a", "join a a b", "join b b b", "join b a b"]:
            self.assert_changes_nothing(desk, line, "too great")


class TwoDesks(unittest.TestCase):
    """Points 1 and 85."""

    def test_beside_one_another(self):
        one, other = Desk(), Desk()
        self.assertEqual(one.say("keep a go 1"), "kept")
        self.assertEqual(other.say("names"), "none")
        self.assertEqual(other.say("show a"), "no such name")
        self.assertEqual(other.say("keep a turn 1"), "kept")
        self.assertEqual(one.say("show a"), "go 1")
        self.assertEqual(one.say("drop a"), "dropped")
        self.assertEqual(other.say("show a"), "turn 1")
        self.assertEqual(Desk().say("names"), "none")


class AllWords(unittest.TestCase):
    """Points 1 and 85."""

    def test_what_is_told(self):
        desk = Desk()
        self.assertEqual(desk.all_words(), {})
        desk.say("keep b go 1 times 2 [ turn 1 ]")
        desk.say("keep a")
        self.assertIs(type(desk.all_words()), dict)
        self.assertEqual(desk.all_words(), {"a": (), "b": (("go", 1), ("times", 2, (("turn", 1),)))})
        desk.say("drop a")
        self.assertEqual(desk.all_words(), {"b": (("go", 1), ("times", 2, (("turn", 1),)))})

    def test_told_anew_each_time(self):
        desk = desk_with(a="go 1", b="go 2")
        first, second = desk.all_words(), desk.all_words()
        self.assertIsNot(first, second)
        first.pop("a")
        first["b"] = ("spoilt",)
        first["c"] = ()
        self.assertEqual(second, {"a": (("go", 1),), "b": (("go", 2),)})
        self.assertEqual(desk.all_words(), second)
        self.assertEqual(desk.say("names"), "a b")
        self.assertEqual(desk.say("show a"), "go 1")
        self.assertEqual(desk.say("show b"), "go 2")
        self.assertEqual(desk.say("show c"), "no such name")

    def test_what_was_told_stays_as_it_was(self):
        desk = desk_with(a="go 1")
        told = desk.all_words()
        desk.say("keep b go 2")
        desk.say("drop a")
        self.assertEqual(told, {"a": (("go", 1),)})

    def test_many_lines(self):
        chance = random.Random(86)
        desk = Desk()
        kept = {}
        names = ["a", "b", "c", "abcdefgh"]
        words = some_words(30)
        for _ in range(2000):
            new, one, other = (chance.choice(names) for _ in range(3))
            kind = chance.choice(["keep", "keep", "drop", "join", "bad"])
            if kind == "keep":
                word = chance.choice(words)
                line, answer = (f"keep {new} {shown(word)}" if word else f"keep {new}"), "kept"
                kept[new] = word
            elif kind == "drop":
                line, answer = f"drop {new}", "dropped" if new in kept else "no such name"
                kept.pop(new, None)
            elif kind == "join":
                line = f"join {new} {one} {other}"
                if one not in kept or other not in kept:
                    answer = "no such name"
                elif count(kept[one] + kept[other]) > 30:
                    answer = "too great"
                else:
                    answer = "kept"
                    kept[new] = kept[one] + kept[other]
            else:
                answer = "bad line"
                line = chance.choice(["", "keep", f"keep {new} ", f"drop {new} {one}", f"join {new} {one}"])
            self.assertEqual(desk.say(line), answer)
            self.assertEqual(desk.all_words(), kept)
            self.assertEqual(desk.say("names"), " ".join(sorted(kept)) if kept else "none")
