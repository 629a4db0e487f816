"""Points [18] to [20], and the heading raytrain/texts.py of the interface."""

import copy
import re
import unittest

from raytrain.errors import BadTrain, EndError, TokenError
from raytrain.texts import format_fraction, format_train, parse_train, tokens_of
from tests.helper import HUGE, WIDE, is_fraction, pair, small_fractions
from tests.samples import small_trains

# A letter for each token: the grammar of [19] as regular expressions over these letters.
LETTERS = {"g": "gap", "l": "lens", "p": "prism", "f": "afocal", "s": "stop", "a": "at", "r": "from", "t": "to",
           ";": ";", "n": "1", "x": "gaps"}
PART = "(?:gn|ln(?:an)?|pn|fn|s(?:rn)?(?:tn)?)"
WHOLE = re.compile(f"(?:{PART}(?:;{PART})*)?")
BEGINNING = re.compile(f"(?:{PART};)*(?:{PART}|g|l|lna|p|f|sr|srnt|st|)")
GOOD_NUMBERS = {
    "0": (0, 1), "1": (1, 1), "-1": (-1, 1), "10": (10, 1), "1000000": (1000000, 1), "-1000000": (-1000000, 1),
    "999999/1000000": (999999, 1000000), "1/1000000": (1, 1000000), "2/4": (1, 2), "-6/4": (-3, 2), "5/1": (5, 1),
    "1000000/1000000": (1, 1), "-7/3": (-7, 3), "120": (120, 1), "1/10": (1, 10), "1000000/3": (1000000, 3),
}
BAD_NUMBERS = [
    "-0", "0/5", "+1", "00", "01", "-01", "1/0", "1/05", "1/-2", "-1/-2", "1/", "/2", "/", "-", "--1", "-/2", "1/2/3",
    "1.5", "1e3", "1_000", "0x1", "one", "1000001", "-1000001", "1/1000001", "2000000/2", "1000001/1000001", "1/00",
    "9999999", "10000000", "0/1", "-0/1", "00/1", "1-", "1/2-", "0.", "\u00b2", "\u0661", "1\u00b2", "\uff11",
    "1\n", "\t1", "1\t", "9" * 5000, "1/" + "9" * 5000, "1" * 100, "0" * 9, "-", "+0", "1/+2", "1//2", "at", "gap",
]


def parsed(text):
    """Return the train of a text, or what its reading raised."""
    try:
        return parse_train(text)
    except TokenError as error:
        return error.token
    except EndError:
        return "end"
    except BadTrain:
        return "bad"


class Formats(unittest.TestCase):
    def test_fractions(self):
        self.assertEqual(format_fraction((0, 1)), "0")
        self.assertEqual(format_fraction((5, 1)), "5")
        self.assertEqual(format_fraction((-5, 1)), "-5")
        self.assertEqual(format_fraction((2, 3)), "2/3")
        self.assertEqual(format_fraction((-7, 2)), "-7/2")
        self.assertEqual(format_fraction((HUGE, WIDE)), f"{HUGE}/{WIDE}")

    def test_all_elements(self):
        train = [
            ("gap", (1, 2)), ("lens", (-1, 1), (0, 1)), ("lens", (0, 1), (-2, 3)), ("prism", (0, 1)),
            ("afocal", (-3, 1)), ("stop", None, None), ("stop", (1, 1), None), ("stop", None, (-1, 2)),
            ("stop", (0, 1), (5, 1)),
        ]
        self.assertEqual(format_train(train), (
            "gap 1/2; lens -1; lens 0 at -2/3; prism 0; afocal -3; stop; stop from 1; stop to -1/2; "
            "stop from 0 to 5"
        ))

    def test_short_trains(self):
        self.assertEqual(format_train([]), "")
        self.assertEqual(format_train([("gap", (-4, 3))]), "gap -4/3")
        self.assertEqual(format_train([("stop", (0, 1), (0, 1))]), "stop from 0 to 0")

    def test_trains_that_cannot_be_read(self):
        self.assertEqual(format_train([("gap", (HUGE, 1))]), f"gap {HUGE}")
        self.assertEqual(format_train([("stop", None, None)] * 20), "; ".join(["stop"] * 20))

    def test_the_train_stays_as_it_was(self):
        for train in small_trains(30, 51):
            kept = copy.deepcopy(train)
            format_train(train)
            self.assertEqual(train, kept)


class Tokens(unittest.TestCase):
    def test_told_tokens(self):
        for text, tokens in [
            ("", []), (" ", []), ("    ", []), (";", [";"]), (";;", [";", ";"]), (" ; ;", [";", ";"]),
            ("gap 1", ["gap", "1"]), ("  gap   1  ", ["gap", "1"]), ("gap 1;lens 2", ["gap", "1", ";", "lens", "2"]),
            ("gap 1 ; lens 2;", ["gap", "1", ";", "lens", "2", ";"]), ("a;b", ["a", ";", "b"]), ("x", ["x"]),
            (";x;", [";", "x", ";"]), ("+1,2 ?", ["+1,2", "?"]),
        ]:
            with self.subTest(text=text):
                found = tokens_of(text)
                self.assertIsInstance(found, list)
                self.assertEqual(found, tokens)

    def test_only_the_space_and_the_semicolon_divide(self):
        for character in "\n\t\r\v\f\0\u00a0\u2003\u3000,.:'\"\\":
            with self.subTest(character=character):
                self.assertEqual(tokens_of(f"gap{character}1"), [f"gap{character}1"])
                self.assertEqual(tokens_of(character), [character])
                self.assertEqual(tokens_of(f" {character};"), [character, ";"])

    def test_each_list_is_new(self):
        first, second = tokens_of("gap 1"), tokens_of("gap 1")
        self.assertIsNot(first, second)


class Numbers(unittest.TestCase):
    def test_good_ones(self):
        for token, number in GOOD_NUMBERS.items():
            with self.subTest(token=token):
                self.assertEqual(parsed(f"gap {token}"), [("gap", number)])
                self.assertEqual(parsed(f"lens {token}"), [("lens", number, (0, 1))])
                self.assertEqual(parsed(f"lens 1 at {token}"), [("lens", (1, 1), number)])
                self.assertEqual(parsed(f"prism {token}"), [("prism", number)])
                self.assertEqual(parsed(f"stop from {token}"), [("stop", number, None)])
                self.assertEqual(parsed(f"stop to {token}"), [("stop", None, number)])
                self.assertEqual(parsed(f"stop from -1000000 to {token}"), [("stop", (-1000000, 1), number)])

    def test_bad_ones(self):
        for token in BAD_NUMBERS:
            with self.subTest(token=token[:20]):
                self.assertEqual(parsed(f"gap {token}"), 2)
                self.assertEqual(parsed(f"lens 1 at {token}"), 4)
                self.assertEqual(parsed(f"stop from 1 to {token}"), 5)
                self.assertEqual(parsed(f"gap 1; prism {token}; x"), 5)

    def test_all_small_fractions(self):
        for number in small_fractions():
            found = parse_train(f"gap {number[0]}/{number[1]}" if number[0] else "gap 0")
            self.assertEqual(found, [("gap", number)])
            self.assertTrue(is_fraction(found[0][1]))

    def test_figures_one_by_one(self):
        for figure in "0123456789":
            self.assertEqual(parsed(f"gap 1{figure}"), [("gap", (10 + int(figure), 1))])
            self.assertEqual(parsed(f"gap 1/1{figure}"), [("gap", (1, 10 + int(figure)))])


class Grammar(unittest.TestCase):
    def check(self, letters):
        tokens = [LETTERS[letter] for letter in letters]
        wrong = [many for many in range(1, len(letters) + 1) if not BEGINNING.fullmatch(letters[:many])]
        found = parsed(" ".join(tokens))
        if wrong:
            self.assertEqual(found, wrong[0], tokens)
        elif not WHOLE.fullmatch(letters):
            self.assertEqual(found, "end", tokens)
        else:
            self.assertIsInstance(found, list)
            self.assertEqual(len(found), letters.count(";") + 1 if letters else 0)

    def test_all_beginnings_and_each_token_behind_them(self):
        beginnings = [""]
        for _ in range(6):
            further = [letters + letter for letters in beginnings for letter in LETTERS]
            for letters in further:
                self.check(letters)
                self.check(letters + "n")
                self.check(letters + ";g")
            beginnings = [letters for letters in further if BEGINNING.fullmatch(letters)]

    def test_told_trains(self):
        self.assertEqual(parse_train("gap 1; lens 1/2 at -3; prism 2; afocal -1/2"), [
            ("gap", (1, 1)), ("lens", (1, 2), (-3, 1)), ("prism", (2, 1)), ("afocal", (-1, 2))])
        self.assertEqual(parse_train("stop;stop from 1;stop to 2;stop from 1 to 2"), [
            ("stop", None, None), ("stop", (1, 1), None), ("stop", None, (2, 1)), ("stop", (1, 1), (2, 1))])
        self.assertEqual(parse_train("lens 4/2 at 0"), [("lens", (2, 1), (0, 1))])

    def test_texts_without_tokens(self):
        for text in ("", " ", "       "):
            self.assertEqual(parse_train(text), [])
        self.assertIsNot(parse_train(""), parse_train(""))

    def test_spaces(self):
        self.assertEqual(parse_train("   gap   1  ;lens 2  "), [("gap", (1, 1)), ("lens", (2, 1), (0, 1))])
        self.assertEqual(parsed("gap1"), 1)
        self.assertEqual(parsed("gap 1;gap2"), 4)
        self.assertEqual(parsed("gap\n1"), 1)
        self.assertEqual(parsed("gap 1\n"), 2)
        self.assertEqual(parsed("gap\t1"), 1)

    def test_semicolons(self):
        for text, expected in [
            (";", 1), ("; gap 1", 1), ("gap 1;", "end"), ("gap 1; ;", 4), ("gap 1;;", 4), ("gap 1;; gap 1", 4),
            ("gap ;", 2), ("gap 1; gap", "end"), ("stop;", "end"), ("stop;;", 3), ("stop from ;", 3),
        ]:
            with self.subTest(text=text):
                self.assertEqual(parsed(text), expected)

    def test_beginnings(self):
        for text in ("gap", "lens", "lens 1 at", "prism", "afocal", "stop from", "stop to", "stop from 1 to",
                     "stop; stop from 1; lens 2 at"):
            with self.subTest(text=text):
                self.assertEqual(parsed(text), "end")

    def test_wrong_tokens(self):
        for text, expected in [
            ("lens 1 from", 3), ("lens 1 2", 3), ("lens at 1", 2), ("lens 1 at 2 at", 5), ("stop 1", 2),
            ("stop to 1 from 2", 4), ("stop from 1 from 2", 4), ("stop to 1 to 2", 4), ("stop from 1 to 2 3", 6),
            ("Gap 1", 1), ("GAP 1", 1), ("gap 1 gap 2", 3), ("gap 1, gap 2", 2), ("gap one", 2), ("1", 1),
            ("a number", 1), ("gap a number", 2), ("stop at 1", 2), ("gap 1 at 2", 3), ("afocal 1 at 2", 3),
        ]:
            with self.subTest(text=text):
                self.assertEqual(parsed(text), expected)

    def test_the_first_wrong_token_counts(self):
        self.assertEqual(parsed("gap x; prism y; z"), 2)
        self.assertEqual(parsed("gap 1; prism y; z"), 5)
        self.assertEqual(parsed("gap 1; prism 1; z"), 7)


class BadTrains(unittest.TestCase):
    def test_an_afocal_element_of_0(self):
        self.assertEqual(parsed("afocal 0"), "bad")
        self.assertEqual(parsed("gap 1; afocal 0; gap 1"), "bad")
        self.assertEqual(parsed("afocal 1/1000000"), [("afocal", (1, 1000000))])
        self.assertEqual(parsed("gap 0; lens 0; prism 0"),
                         [("gap", (0, 1)), ("lens", (0, 1), (0, 1)), ("prism", (0, 1))])

    def test_edges(self):
        self.assertEqual(parsed("stop from 2 to 1"), "bad")
        self.assertEqual(parsed("stop from 1 to -1"), "bad")
        self.assertEqual(parsed("stop from 1/2 to 499999/1000000"), "bad")
        self.assertEqual(parsed("stop; stop from 0 to 1; stop from 1 to 0"), "bad")
        self.assertEqual(parsed("stop from 1 to 1"), [("stop", (1, 1), (1, 1))])
        self.assertEqual(parsed("stop from 2/4 to 1/2"), [("stop", (1, 2), (1, 2))])
        self.assertEqual(parsed("stop from -2 to -1"), [("stop", (-2, 1), (-1, 1))])
        self.assertEqual(parsed("stop from 9; stop to -9"), [("stop", (9, 1), None), ("stop", None, (-9, 1))])

    def test_how_many_elements(self):
        for many in (1, 15, 16):
            self.assertEqual(parsed("; ".join(["gap 1"] * many)), [("gap", (1, 1))] * many)
        for many in (17, 18, 40):
            self.assertEqual(parsed("; ".join(["gap 1"] * many)), "bad")
        self.assertEqual(len(parsed("; ".join(["gap 1"] * 8 + ["stop"] * 8))), 16)
        self.assertEqual(parsed("; ".join(["gap 1"] * 9 + ["stop"] * 8)), "bad")

    def test_how_many_stops(self):
        for many in (1, 7, 8):
            self.assertEqual(parsed("; ".join(["stop"] * many)), [("stop", None, None)] * many)
        for many in (9, 10, 17):
            self.assertEqual(parsed("; ".join(["stop"] * many)), "bad")
        self.assertEqual(parsed("; ".join(["stop from 1"] * 5 + ["gap 1"] + ["stop"] * 4)), "bad")

    def test_the_other_errors_go_ahead(self):
        self.assertEqual(parsed("afocal 0; x"), 4)
        self.assertEqual(parsed("afocal 0;"), "end")
        self.assertEqual(parsed("afocal 0; gap"), "end")
        self.assertEqual(parsed("stop from 2 to 1 1"), 6)
        self.assertEqual(parsed("stop from 2 to 1;"), "end")
        self.assertEqual(parsed("; ".join(["gap 1"] * 17) + ";"), "end")
        self.assertEqual(parsed("; ".join(["gap 1"] * 17) + " 1"), 51)
        self.assertEqual(parsed("; ".join(["stop"] * 9) + "; stop from"), "end")


class RoundTrips(unittest.TestCase):
    def test_a_canonical_text_is_read_as_its_train(self):
        for train in small_trains(300, 52, 8):
            text = format_train(train)
            with self.subTest(text=text):
                self.assertEqual(parse_train(text), train)
                self.assertNotIn("  ", text)
                self.assertNotIn(" ;", text)
                self.assertEqual(text, text.strip(" "))

    def test_the_greatest_trains(self):
        far = pair(999999, 1000000)
        train = [("stop", pair(-1000000), pair(1000000)), ("lens", far, pair(-1000000))] * 8
        self.assertEqual(parse_train(format_train(train)), train)

    def test_different_trains_have_different_texts(self):
        trains = small_trains(300, 53, 3)
        texts = {format_train(train): train for train in trains}
        for train in trains:
            self.assertEqual(texts[format_train(train)], train)

    def test_other_texts_of_a_train(self):
        self.assertEqual(format_train(parse_train(" gap  2/4;lens 3/1 at 0 ;stop  from -2/2 to 6/3 ")),
                         "gap 1/2; lens 3; stop from -1 to 2")


if __name__ == "__main__":
    unittest.main()
