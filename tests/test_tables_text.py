import random
import unittest

from countcycles.errors import NoText, NoWidth
from countcycles.tables import Table
from tests.samples import NO_WIDTHS, many_tables, values_but

SIGNS = ("", " ", "\n", "0", "1", "9", "+", "-", "_", ".", ",", "a", "~", "\t", "\r", "\f", "\v", "\x00", "\x85",
         "\u2028", "\u0661", "\u00b2", "\u00a0", "  ", " 0", "0 ")

NUMERALS = {str(value): value for value in range(10000)}


def plain_text(rows):
    return "".join(" ".join(map(str, row)) + "\n" for row in rows)


def plainly_read(width, text):
    """The rows of the table whose text this is, or None."""
    if text and text[-1] != "\n" or text.count("\n") > 400:
        return None
    rows = []
    while text:
        line, text = text[:text.index("\n")], text[text.index("\n") + 1:]
        words = line.split(" ")
        if len(words) != width or any(word not in NUMERALS for word in words):
            return None
        rows.append(tuple(NUMERALS[word] for word in words))
    return rows


class TextTest(unittest.TestCase):

    def test_lines(self):
        self.assertEqual(Table(2, (0, 3), (1, 3), (2, 4)).text(), "0 3\n1 3\n2 4\n")
        self.assertEqual(Table(2, (2, 4), (0, 3), (2, 4)).text(), "2 4\n0 3\n2 4\n")
        self.assertEqual(Table(1, (9999,), (10,)).text(), "9999\n10\n")

    def test_no_rows(self):
        for width in range(1, 7):
            self.assertEqual(Table(width).text(), "")
            self.assertEqual(Table.read(width, ""), Table(width))

    def test_each_table_comes_back(self):
        for width in range(1, 7):
            for rows in many_tables(width):
                made = Table(width, *rows)
                text = made.text()
                self.assertIs(type(text), str)
                self.assertEqual(text, plain_text(rows))
                back = Table.read(width, text)
                self.assertIs(type(back), Table)
                self.assertEqual((back.width, back.rows), (width, tuple(rows)))
                self.assertTrue(all(type(part) is int for row in back.rows for part in row))
                self.assertEqual(back.text(), text)
                self.assertEqual(made.rows, tuple(rows))

    def test_each_value(self):
        for start in range(0, 10000, 400):
            text = "".join(f"{value}\n" for value in range(start, start + 400))
            table = Table.read(1, text)
            self.assertEqual(table.rows, tuple((value,) for value in range(start, start + 400)))
            self.assertEqual(table.text(), text)


class WrongTextTest(unittest.TestCase):

    def check(self, width, text):
        expected = plainly_read(width, text)
        if expected is None:
            with self.subTest(width=width, text=text), self.assertRaises(NoText) as caught:
                Table.read(width, text)
            self.assertTrue(str(caught.exception))
        else:
            self.assertEqual(Table.read(width, text).rows, tuple(expected))

    def test_named_edges(self):
        wrong = (
            "0 1", "0 1 \n", " 0 1\n", "0  1\n", "0 1\n\n", "\n", "\n0 1\n", "\n\n", " ", " \n", "0\n", "0 1 2\n",
            "0 1\r\n", "0 1\n ", "00 1\n", "0 01\n", "+0 1\n", "0 -1\n", "-0 1\n", "0 10000\n", "10000 0\n",
            "0 1_0\n", "0\t1\n", "0,1\n", "0, 1\n", "(0, 1)\n", "0 1.0\n", "0 x\n", "0 0x1\n", "0 1e3\n",
            "\u0660 1\n", "0 \u0661\n", "0 \u00b2\n", "0 1\u2028", "0 1\x0b", "0 1\x00\n", "0 1\n2\n", "0 1\n2 3",
            "0 1 2 3\n", "0 1\n\n2 3\n", "None None\n", "True False\n", "Table(2 columns, 0 rows)", "0 99999\n",
        )
        for text in wrong:
            self.assertIsNone(plainly_read(2, text))
            self.check(2, text)

    def test_another_width(self):
        for width in range(1, 7):
            for other in range(1, 7):
                self.check(width, " ".join(["7"] * other) + "\n")

    def test_edges_of_the_number_of_rows(self):
        for width in (1, 6):
            line = " ".join(["9999"] * width) + "\n"
            self.assertEqual(len(Table.read(width, line * 400)), 400)
            for many in (401, 402, 600):
                with self.assertRaises(NoText):
                    Table.read(width, line * many)

    def test_a_sign_changed_added_or_omitted(self):
        for width, text in ((1, "0\n"), (1, "10\n9999\n"), (2, "1 0\n20 305\n"), (3, "0 1 2\n"), (2, "")):
            for place in range(len(text) + 1):
                for sign in SIGNS:
                    self.check(width, text[:place] + sign + text[place:])
                    self.check(width, text[:place] + sign + text[place + 1:])

    def test_a_line_or_a_word_changed_added_or_omitted(self):
        chance = random.Random(11)
        for width in range(1, 7):
            for rows in many_tables(width)[::3]:
                lines = [" ".join(map(str, row)) for row in rows] or [""]
                place = chance.randrange(len(lines))
                words = lines[place].split(" ")
                at = chance.randrange(len(words))
                for line in ("", " ", lines[place] + " ", "0", "1 2", lines[-1]):
                    self.check(width, "".join(f"{x}\n" for x in lines[:place] + [line] + lines[place:]))
                    self.check(width, "".join(f"{x}\n" for x in lines[:place] + [line] + lines[place + 1:]))
                for word in ("", "0", "00", "01", "9999", "10000", "-1", "+1", "1.5", "x", "\u0663"):
                    for changed in (words[:at] + [word] + words[at:], words[:at] + [word] + words[at + 1:]):
                        line = " ".join(changed)
                        self.check(width, "".join(f"{x}\n" for x in lines[:place] + [line] + lines[place + 1:]))
                omitted = lines[:place] + [" ".join(words[:at] + words[at + 1:])] + lines[place + 1:]
                self.check(width, "".join(f"{x}\n" for x in omitted))
                self.check(width, "\n".join(lines))

    def test_long_texts(self):
        for text in ("\n" * 20000, " " * 20000, "x" * 20000, "1" * 19999 + "\n", "0" * 19999 + "\n",
                     "1 " * 9999 + "\n"):
            with self.assertRaises(NoText):
                Table.read(1, text)

    def test_no_text(self):
        others = [Table(2), Table(2).rows, b"", b"0 1\n", ["0 1\n"], ("0 1\n",), [], (), None, 0]
        for thing in others + [value for value in values_but(()) if value != ""]:
            with self.assertRaises(NoText):
                Table.read(2, thing)

    def test_no_width(self):
        for width in NO_WIDTHS:
            with self.subTest(width=width), self.assertRaises(NoWidth):
                Table.read(width, "")

    def test_no_width_ahead_of_no_text(self):
        for width in NO_WIDTHS:
            for text in ("\n", "0 1", None, 5, [], ("0 1\n",)):
                with self.subTest(width=width, text=text), self.assertRaises(NoWidth):
                    Table.read(width, text)

    def test_by_names(self):
        self.assertEqual(Table.read(width=2, text="1 2\n").rows, ((1, 2),))


if __name__ == "__main__":
    unittest.main()
