import random
import unittest

from countcycles.errors import NoText, NoWidth
from countcycles.rules import Rules
from tests.samples import NO_WIDTHS, any_values, many_lists, rules_for

SIGNS = ("", " ", "\n", "0", "1", "5", "6", "9", "+", "-", "_", ".", "s", "S", "w", "a", "~", "\t", "\r", "\f", "\v",
         "\x85", "\u2028", "\u0661", "\u00a0")


def plain_text(rules):
    return "".join(f"{a} {kind} {b}\n" for kind, a, b in rules)


def plainly_read(width, text):
    """The rules whose text this is, found by trying each rule at each place, or None."""
    lines = {plain_text([rule]): rule for rule in rules_for(width)}
    found = []
    while text:
        fitting = [line for line in lines if text.startswith(line)]
        if len(fitting) != 1 or lines[fitting[0]] in found:
            return None
        found.append(lines[fitting[0]])
        text = text[len(fitting[0]):]
    return found


class TextTest(unittest.TestCase):

    def test_lines(self):
        rules = Rules(3, ("settles", 0, 1), ("within", 2, 0))
        self.assertEqual(rules.text(), "0 settles 1\n2 within 0\n")
        self.assertEqual(Rules(3, ("within", 2, 0), ("settles", 0, 1)).text(), "2 within 0\n0 settles 1\n")

    def test_no_rules(self):
        for width in range(1, 7):
            self.assertEqual(Rules(width).text(), "")
            self.assertEqual(Rules.read(width, ""), Rules(width))

    def test_each_list_comes_back(self):
        for width in range(1, 7):
            for rules in many_lists(width):
                made = Rules(width, *rules)
                text = made.text()
                self.assertIs(type(text), str)
                self.assertEqual(text, plain_text(rules))
                back = Rules.read(width, text)
                self.assertIs(type(back), Rules)
                self.assertEqual((back.width, back.rules), (width, tuple(rules)))
                self.assertEqual(back.text(), text)
                self.assertEqual(back, made)
                self.assertEqual(made.rules, tuple(rules))


class WrongTextTest(unittest.TestCase):

    def check(self, width, text):
        expected = plainly_read(width, text)
        if expected is None:
            with self.subTest(width=width, text=text), self.assertRaises(NoText) as caught:
                Rules.read(width, text)
            self.assertTrue(str(caught.exception))
        else:
            self.assertEqual(Rules.read(width, text).rules, tuple(expected))

    def test_named_edges(self):
        wrong = (
            "0 settles 1", "0 settles 1 \n", " 0 settles 1\n", "0  settles 1\n", "0 settles  1\n", "0 settles 1\n\n",
            "\n", "\n0 settles 1\n", "\n\n", " ", " \n", "0 settles 1\r\n", "0 settles 1\n ", "00 settles 1\n",
            "0 settles 01\n", "+0 settles 1\n", "0 settles +1\n", "-0 settles 1\n", "0 settles -1\n", "0 Settles 1\n",
            "0 settle 1\n", "0 lies within 1\n", "0 is 1\n", "0 settles 1 2\n", "0 settles\n", "settles 0 1\n",
            "0 1\n", "0settles1\n", "0\tsettles\t1\n", "0 settles 0\n", "0 settles 3\n", "3 within 0\n",
            "0 settles 1\n0 settles 1\n", "0 settles 1\n1 within 0\n0 settles 1\n", "0 settles 1\n1 within 0",
            "0 settles 1\n\n1 within 0\n", "0 settles 1 1 within 0\n", "0 settles 10\n", "0 settles 1_0\n",
            "\u0660 settles 1\n", "0 settles \u0661\n", "0 settles 1\u2028", "0 settles 1\x0b", "Rules(3 columns, 0 rules)",
            "0.0 settles 1\n", "0 settles 1\x00\n", "('settles', 0, 1)\n", "0, settles, 1\n", "zero settles one\n",
        )
        for text in wrong:
            self.assertIsNone(plainly_read(3, text))
            self.check(3, text)

    def test_a_column_outside_of_the_width(self):
        self.assertEqual(Rules.read(6, "5 settles 0\n").rules, (("settles", 5, 0),))
        for width in range(1, 6):
            for text in ("5 settles 0\n", "0 within 5\n", f"{width} settles 0\n", f"0 within {width}\n"):
                with self.assertRaises(NoText):
                    Rules.read(width, text)

    def test_a_sign_changed_added_or_omitted(self):
        for width, text in ((2, "1 within 0\n"), (3, "0 settles 1\n2 within 0\n"), (6, "5 within 4\n4 settles 5\n")):
            for place in range(len(text) + 1):
                for sign in SIGNS:
                    self.check(width, text[:place] + sign + text[place:])
                    self.check(width, text[:place] + sign + text[place + 1:])

    def test_a_line_or_a_word_changed_added_or_omitted(self):
        chance = random.Random(22)
        for width in range(2, 7):
            for rules in many_lists(width)[::5]:
                lines = [f"{a} {kind} {b}" for kind, a, b in rules] or [""]
                place = chance.randrange(len(lines))
                words = lines[place].split(" ")
                at = chance.randrange(len(words))
                for line in ("", " ", lines[place] + " ", "0 settles 1", "1 within 0", lines[-1]):
                    self.check(width, "".join(f"{x}\n" for x in lines[:place] + [line] + lines[place:]))
                    self.check(width, "".join(f"{x}\n" for x in lines[:place] + [line] + lines[place + 1:]))
                for word in ("", "0", "1", "5", "6", "-1", "01", "+1", "settles", "within", "holds", "SETTLES"):
                    for changed in (words[:at] + [word] + words[at:], words[:at] + [word] + words[at + 1:]):
                        line = " ".join(changed)
                        self.check(width, "".join(f"{x}\n" for x in lines[:place] + [line] + lines[place + 1:]))
                omitted = lines[:place] + [" ".join(words[:at] + words[at + 1:])] + lines[place + 1:]
                self.check(width, "".join(f"{x}\n" for x in omitted))
                self.check(width, "".join(f"{x}\n" for x in lines[:place] + lines[place + 1:]))
                self.check(width, "\n".join(lines))

    def test_long_texts(self):
        for text in ("0 settles 1\n" * 1600, "\n" * 20000, " " * 20000, "x" * 20000, "0 settles " + "1" * 19000 + "\n"):
            with self.assertRaises(NoText):
                Rules.read(2, text)

    def test_no_text(self):
        for thing in any_values() + [Rules(2), Rules(2).rules, b"", b"0 settles 1\n"]:
            with self.assertRaises(NoText):
                Rules.read(2, thing)
        with self.assertRaises(NoText):
            Rules.read(2, ["0 settles 1\n"])

    def test_no_width(self):
        for width in NO_WIDTHS:
            with self.subTest(width=width), self.assertRaises(NoWidth):
                Rules.read(width, "")

    def test_no_width_ahead_of_no_text(self):
        for width in NO_WIDTHS:
            for text in ("\n", "0 settles 1", None, 5, [], ("0 settles 1\n",)):
                with self.subTest(width=width, text=text), self.assertRaises(NoWidth):
                    Rules.read(width, text)


if __name__ == "__main__":
    unittest.main()
