"""The text of a piece, written and read back: points [2] and [6]."""

import random
import unittest

from weldmill import texts
from weldmill.errors import NoText, WeldError
from weldmill.pieces import is_piece
from weldmill.texts import read, write

PIECE = (
    "main0",
    (
        ("text", "code", 1, (
            ("set", 0, -1000000000), ("copy", 1, 7), ("add", 2, 6), ("less", 3, 5), ("times", 4, 4),
            ("load", 5, 3, -99), ("store", 6, 2, 99), ("place", 7, "far", 12), ("call", "f"), ("jump", "g"),
            ("when", 1, "h"), ("enter", 2), ("back",), ("tell", 3), ("halt",),
        )),
        ("empty", "code", 1, ()),
        ("rows", "data", 8, (("cell", -5), ("at", "table", 99), ("room", 500), ("cell", 0), ("room", 0))),
    ),
    (
        ("a", "local", (2, 503)), ("b", "strong", (0, 15)), ("c", "weak", (1, 0)), ("d", "common", 500),
        ("e", "maybe", None),
    ),
)
TEXT = """piece main0
section text code 1
set 0 -1000000000
copy 1 7
add 2 6
less 3 5
times 4 4
load 5 3 -99
store 6 2 99
place 7 far 12
call f
jump g
when 1 h
enter 2
back
tell 3
halt
section empty code 1
section rows data 8
cell -5
at table 99
room 500
cell 0
room 0
symbol a local 2 503
symbol b strong 0 15
symbol c weak 1 0
symbol d common 500
symbol e maybe
"""

# The bounds of the parts of each item's line, None where a name stands.
CODE = {
    "set": ((0, 7), (-10 ** 9, 10 ** 9)),
    "copy": ((0, 7), (0, 7)),
    "add": ((0, 7), (0, 7)),
    "less": ((0, 7), (0, 7)),
    "times": ((0, 7), (0, 7)),
    "load": ((0, 7), (0, 7), (-99, 99)),
    "store": ((0, 7), (0, 7), (-99, 99)),
    "place": ((0, 7), None, (0, 99)),
    "call": (None,),
    "jump": (None,),
    "when": ((0, 7), None),
    "enter": ((0, 7),),
    "back": (),
    "tell": ((0, 7),),
    "halt": (),
}
DATA = {"cell": ((-10 ** 9, 10 ** 9),), "at": (None, (0, 99)), "room": ((0, 500),)}
FORMS = {"code": CODE, "data": DATA}

NO_NAMES = ["A", "0", "0a", "-a", "_a", "a_", "aB", "a.b", "a-b", "a" * 17, "a\t", "\ta", "a\r", "\u00e4", "a,", "1"]
NO_NUMBERS = ["a", "+1", "--1", "-", "0x", "0b", "-0x", "-0b", "0X1", "0B1", "0xA", "0xg", "0b2", "0x-1", "0b-1",
              "1_0", "1.", "1.0", "1e1", "1a", "0o1", "x1", "0x1x", "00x1", "0x0x1", "0b0b1", "0x 1", "1\t", "\t1",
              "1\r", "\u0661", "\u00b2", "True", "None", "1,", "(1)", "~"]

LETTERS = "abcdefghijklmnopqrstuvwxyz"


def line_at_fault(text):
    """The field of the refusal of the text, None where it is read."""
    try:
        read(text)
    except NoText as refused:
        return refused.line
    return None


def number_read(word):
    """What the word is read as, in the place of a plain number."""
    return read("piece p\nsection s data 1\ncell " + word + "\n")[1][0][3][0][1]


def number_refused(word):
    return line_at_fault("piece p\nsection s data 1\ncell " + word + "\n") == 3


class Written(unittest.TestCase):
    def test_each_line_with_a_line_end_behind(self):
        self.assertEqual(write(PIECE), TEXT)

    def test_an_empty_piece(self):
        self.assertEqual(write(("p", (), ())), "piece p\n")

    def test_sections_symbols_in_their_order(self):
        sections = (("s", "data", 2, ()), ("r", "code", 1, (("halt",),)))
        piece = ("p", sections, (("a0", "maybe", None), ("b", "common", 1)))
        self.assertEqual(write(piece), "piece p\nsection s data 2\nsection r code 1\nhalt\n"
                                       "symbol a0 maybe\nsymbol b common 1\n")

    def test_numbers_in_tens_the_least_way(self):
        for number in (0, 1, -1, 9, 10, -10, 255, 1000000000, -1000000000):
            piece = ("p", (("s", "data", 1, (("cell", number),)),), ())
            self.assertEqual(write(piece), "piece p\nsection s data 1\ncell " + str(number) + "\n")

    def test_what_was_read_is_written_the_least_way(self):
        text = " piece  p ;x\n\nsection s data 0x8\ncell -0x0f\n;y\ncell -0b0\nsymbol b maybe\nsymbol a common 0b11"
        self.assertEqual(write(read(text)), "piece p\nsection s data 8\ncell -15\ncell 0\n"
                                            "symbol a common 3\nsymbol b maybe\n")


class ReadBack(unittest.TestCase):
    def test_what_is_written(self):
        self.assertEqual(read(TEXT), PIECE)
        self.assertEqual(read("piece p\n"), ("p", (), ()))

    def test_a_piece_of_tuples(self):
        name, sections, symbols = read(TEXT)
        self.assertIs(read(TEXT).__class__, tuple)
        self.assertIs(sections.__class__, tuple)
        self.assertIs(symbols.__class__, tuple)
        self.assertIs(is_piece((name, sections, symbols)), True)

    def test_the_last_line_without_a_line_end(self):
        self.assertEqual(read(TEXT[:-1]), PIECE)
        self.assertEqual(read("piece p"), ("p", (), ()))

    def test_blanks_at_ends_and_between(self):
        for text in ("  piece p\n", "piece p   \n", "piece    p\n", "   piece   p   ", "piece p\n   "):
            self.assertEqual(read(text), ("p", (), ()))
        wide = "".join(["   " + line.replace(" ", "    ") + "  \n" for line in TEXT.split("\n")])
        self.assertEqual(read(wide), PIECE)

    def test_lines_of_blanks_alone(self):
        self.assertEqual(read("\n\n   \npiece p\n\n \n\n"), ("p", (), ()))
        self.assertEqual(read(TEXT.replace("\n", "\n\n    \n")), PIECE)

    def test_remarks(self):
        for text in ("piece p;a remark", "piece p ; a remark\n", "piece p ;;; ;", ";\npiece p\n;",
                     "; a\n ;b\npiece p;c\n;d", "piece p;\ttab\r and \u00e4 and ;", "piece p;piece q\n;section 0\n"):
            with self.subTest(text):
                self.assertEqual(read(text), ("p", (), ()))
        self.assertEqual(read(TEXT.replace("\n", ";halt\n")), PIECE)

    def test_a_remark_cuts_a_line_short(self):
        self.assertEqual(line_at_fault("piece;p\n"), 1)
        self.assertEqual(line_at_fault("piece p\nsection s data 1\ncell ;4\n"), 3)
        self.assertEqual(read("piece p\nsection s data 1\ncell 4;5\n")[1][0][3], (("cell", 4),))

    def test_a_tab_is_no_blank(self):
        for text in ("piece\tp\n", "\tpiece p\n", "piece p\t\n", "piece \tp", "\t\npiece p\n", "\t"):
            with self.subTest(text):
                self.assertEqual(line_at_fault(text), 1)
        self.assertEqual(line_at_fault("piece p\n\t\n"), 2)
        self.assertEqual(line_at_fault("piece p\n\n \t;\n"), 3)

    def test_other_signs_are_no_blanks_and_no_line_ends(self):
        for sign in ("\r", "\x0b", "\x0c", "\x1c", "\x85", "\xa0", "\u2028", "\u2003", "\x00"):
            with self.subTest(sign):
                self.assertEqual(line_at_fault("piece p" + sign + "\n"), 1)
                self.assertEqual(line_at_fault("piece p\n" + sign + "\n"), 2)
                self.assertEqual(line_at_fault("piece p" + sign + "symbol a maybe\n"), 1)

    def test_symbols_in_any_order(self):
        lines = ["symbol c common 3\n", "symbol a maybe\n", "symbol b10 weak 0 0\n", "symbol b2 local 0 1\n"]
        right = (("a", "maybe", None), ("b10", "weak", (0, 0)), ("b2", "local", (0, 1)), ("c", "common", 3))
        head = "piece p\nsection s data 1\ncell 0\n"
        for turn in range(4):
            for rows in (lines[turn:] + lines[:turn], (lines[turn:] + lines[:turn])[::-1]):
                self.assertEqual(read(head + "".join(rows))[2], right)

    def test_names_like_words_and_numbers(self):
        text = "piece piece\nsection section code 1\ncall call\njump x0\nsymbol symbol maybe\nsymbol b0 maybe\n"
        self.assertEqual(read(text), ("piece", (("section", "code", 1, (("call", "call"), ("jump", "x0"))),),
                                      (("b0", "maybe", None), ("symbol", "maybe", None))))


class Numbers(unittest.TestCase):
    def test_in_tens(self):
        for word, number in (("0", 0), ("7", 7), ("-7", -7), ("10", 10), ("-10", -10), ("100", 100), ("909", 909),
                             ("-99", -99), ("1000000000", 10 ** 9), ("-1000000000", -10 ** 9), ("80", 80)):
            self.assertEqual(number_read(word), number)

    def test_in_tens_no_nought_ahead(self):
        for word in ("-0", "00", "-00", "000", "-000", "01", "-01", "007", "-0099", "08", "010", "0999999999",
                     "-01000000000", "00x1", "-00b1", "000b1"):
            with self.subTest(word):
                self.assertIs(number_refused(word), True)

    def test_in_tens_no_nought_ahead_wherever_a_number_stands(self):
        head = "piece p\nsection s code 1\nhalt\nsection t data 1\nroom 3\n"
        for word in ("01", "00", "-0", "-00", "-01"):
            for row in ("section u data " + word, "section u code " + word, "cell " + word, "at n " + word,
                        "room " + word, "symbol a strong " + word + " 0", "symbol a weak 0 " + word,
                        "symbol a local 1 " + word, "symbol a common " + word):
                with self.subTest(row):
                    self.assertEqual(line_at_fault(head + row), 6)
            for row in ("set " + word + " 1", "set 1 " + word, "copy " + word + " 1", "copy 1 " + word,
                        "load " + word + " 1 1", "load 1 " + word + " 1", "store 1 1 " + word,
                        "place " + word + " n 1", "place 1 n " + word, "when " + word + " n", "enter " + word,
                        "tell " + word):
                with self.subTest(row):
                    self.assertEqual(line_at_fault(head[:31] + row), 4)

    def test_in_sixteens(self):
        for word, number in (("0x0", 0), ("0xf", 15), ("0x10", 16), ("-0x1f", -31), ("0xabcdef", 0xabcdef),
                             ("0x000a", 10), ("-0x0", 0), ("0x3b9aca00", 10 ** 9), ("-0x003b9aca00", -10 ** 9),
                             ("0x0b1", 177), ("0x123456", 0x123456), ("0x789", 0x789)):
            self.assertEqual(number_read(word), number)

    def test_in_twos(self):
        for word, number in (("0b0", 0), ("0b1", 1), ("0b10", 2), ("-0b101", -5), ("0b0011", 3), ("-0b0", 0),
                             ("0b111011100110101100101000000000", 10 ** 9),
                             ("-0b00111011100110101100101000000000", -10 ** 9)):
            self.assertEqual(number_read(word), number)

    def test_just_beyond_the_bounds(self):
        for word in ("1000000001", "-1000000001", "0x3b9aca01", "-0x3b9aca01", "0b111011100110101100101000000001",
                     "-0b111011100110101100101000000001", "0x01000000001", "10000000000", "1" + "0" * 59):
            with self.subTest(word):
                self.assertIs(number_refused(word), True)

    def test_thousands_of_figures(self):
        for many in (100, 1000, 4299, 4300, 4301, 5000, 20000):
            noughts = "0" * many
            for sign, times in (("", 1), ("-", -1)):
                for base in ("0x", "0b"):
                    self.assertEqual(number_read(sign + base + noughts), 0)
                    self.assertEqual(number_read(sign + base + noughts + "1"), times)
                for base in ("", "0x", "0b"):
                    for figures in ("1" + noughts, "1" * many, noughts + "1" + noughts, noughts + "1" * many):
                        self.assertIs(number_refused(sign + base + figures), True)
                self.assertIs(number_refused(sign + noughts), True)
                self.assertIs(number_refused(sign + noughts + "1"), True)
                self.assertEqual(number_read(sign + "0x" + noughts + "3b9aca00"), times * 10 ** 9)
                self.assertIs(number_refused(sign + noughts + "1000000001"), True)
                self.assertIs(number_refused(sign + "9" * many), True)
                self.assertIs(number_refused(sign + "0x" + "f" * many), True)
                self.assertIs(number_refused(sign + noughts + "a"), True)
                self.assertIs(number_refused(sign + "0b" + noughts + "2"), True)

    def test_what_is_no_number(self):
        for word in NO_NUMBERS:
            with self.subTest(word):
                self.assertIs(number_refused(word), True)

    def test_everywhere_in_every_base(self):
        text = ("piece p\nsection s code 0b1\nset 0x7 -0x1\nload 0b111 0x00 -0b11\nplace 0b011 n 0x63\n"
                "section d data 0x08\nroom 0b11\nsymbol a strong 0b1 0x3\nsymbol b common 0x1f4\n")
        self.assertEqual(read(text), (
            "p",
            (("s", "code", 1, (("set", 7, -1), ("load", 7, 0, -3), ("place", 3, "n", 99))),
             ("d", "data", 8, (("room", 3),))),
            (("a", "strong", (1, 3)), ("b", "common", 500)),
        ))

    def test_numbers_are_no_truths(self):
        sections = read("piece p\nsection s data 1\ncell 1\ncell 0\n")[1]
        self.assertIs(sections[0][2].__class__, int)
        self.assertEqual([item[1].__class__ for item in sections[0][3]], [int, int])


class NoPieceLine(unittest.TestCase):
    def test_one_more_than_the_number_of_lines(self):
        for text, line in (("", 1), ("\n", 2), (" ", 2), (" \n", 2), ("\n\n", 3), ("\n ", 3), (";", 2), (";a\n", 2),
                           (";a\n;b", 3), ("; piece p\n  \n;\n", 4), ("\n" * 500, 501), ("   \n" * 7 + " ", 9)):
            with self.subTest(text):
                self.assertEqual(line_at_fault(text), line)

    def test_anything_but_piece_first(self):
        for row in ("section s code 1", "halt", "symbol a maybe", "p", "piece", "Piece p", "pieces p", "\t", "-", "0"):
            with self.subTest(row):
                self.assertEqual(line_at_fault(row), 1)
                self.assertEqual(line_at_fault(row + "\npiece p\n"), 1)
                self.assertEqual(line_at_fault("\n ;piece q\n\n" + row + "\npiece p\n"), 4)

    def test_a_piece_line_that_is_none(self):
        for row in ["piece", "piece p q", "piece p 1", "piece piece p"] + ["piece " + name for name in NO_NAMES]:
            with self.subTest(row):
                self.assertEqual(line_at_fault(row), 1)
                self.assertEqual(line_at_fault("\n\n" + row + "\nsection s code 1\n"), 3)


class FirstLineAtFault(unittest.TestCase):
    def test_each_line_of_a_text(self):
        lines = TEXT.split("\n")[:-1]
        for at in range(len(lines)):
            for row in ("nonsense", "piece p", lines[at] + " 0", "\t", "symbol", "section", "halt 0"):
                wrong = lines[:at] + [row] + lines[at + 1:]
                if row == "piece p" and at == 0:
                    continue
                with self.subTest(at=at, row=row):
                    self.assertEqual(line_at_fault("\n".join(wrong)), at + 1)
                    self.assertEqual(line_at_fault("\n;\n" + "\n \n".join(wrong)), at * 2 + 3)

    def test_the_first_of_several(self):
        self.assertEqual(line_at_fault("piece p\nwhat\nwhat\n"), 2)
        self.assertEqual(line_at_fault("piece p\nsection s code 1\nhalt\ncell 0\npiece 0"), 4)

    def test_a_second_piece_line(self):
        self.assertEqual(line_at_fault("piece p\npiece q\n"), 2)
        self.assertEqual(line_at_fault("piece p\nsection s code 1\npiece p\n"), 3)
        self.assertEqual(line_at_fault("piece p\nsymbol a maybe\npiece p\n"), 3)

    def test_items_ahead_of_sections(self):
        for row in ("halt", "cell 0", "set 0 0"):
            self.assertEqual(line_at_fault("piece p\n" + row + "\nsection s code 1\n"), 2)

    def test_sections_and_items_behind_symbols(self):
        head = "piece p\nsection s code 1\nhalt\nsymbol a maybe\n"
        self.assertIsNone(line_at_fault(head))
        for row in ("section t code 1", "section t data 1", "halt", "cell 0"):
            self.assertEqual(line_at_fault(head + row), 5)
            self.assertEqual(line_at_fault(head + "\nsymbol b maybe\n" + row), 7)
        self.assertEqual(line_at_fault("piece p\nsymbol a maybe\nsection t code 1"), 3)

    def test_section_lines(self):
        for rest in ("s code 1", "s data 1", "s data 2", "s data 4", "s data 8", "code code 1", "a0 data 0x4"):
            self.assertIsNone(line_at_fault("piece p\nsection " + rest))
        for rest in ["", "s", "s code", "s data", "code 1", "s 1 code", "s code 1 1", "s code 2", "s code 0",
                     "s data 0", "s data 3", "s data 5", "s data 6", "s data 7", "s data 9", "s data 16",
                     "s data -1", "s code -1", "s Code 1", "s text 1", "s code a", "s maybe 1", "s code true"]:
            with self.subTest(rest):
                self.assertEqual(line_at_fault("piece p\nsection " + rest), 2)
        for name in NO_NAMES:
            self.assertEqual(line_at_fault("piece p\nsection " + name + " code 1"), 2)
        for word in NO_NUMBERS:
            self.assertEqual(line_at_fault("piece p\nsection s data " + word), 2)

    def test_a_ninth_section(self):
        head = "piece p\n"
        for k in range(8):
            head += "section s data 1\ncell 0\n"
            self.assertEqual(len(read(head)[1]), k + 1)
        self.assertEqual(line_at_fault(head + "section s data 1"), 18)
        self.assertEqual(line_at_fault(head + "cell 1\n\nsection t code 1\n"), 20)

    def test_an_item_too_many(self):
        for kind, row in (("code", "halt\n"), ("data", "room 500\n")):
            head = "piece p\nsection s " + kind + " 1\n"
            self.assertIsNone(line_at_fault(head + row * 199))
            self.assertEqual(len(read(head + row * 200)[1][0][3]), 200)
            self.assertEqual(line_at_fault(head + row * 201), 203)
            self.assertEqual(line_at_fault(head + row * 300), 203)
            again = head + row * 200 + "section t " + kind + " 1\n" + row * 200
            self.assertIsNone(line_at_fault(again))
            self.assertEqual(line_at_fault(again + row), 404)

    def test_items_of_the_other_kind(self):
        for kind, other in (("code", "data"), ("data", "code")):
            for word, form in FORMS[kind].items():
                row = " ".join([word] + ["a" if bounds is None else "1" for bounds in form])
                self.assertIsNone(line_at_fault("piece p\nsection s " + kind + " 1\n" + row))
                self.assertEqual(line_at_fault("piece p\nsection s " + other + " 1\n" + row), 3)
                both = "piece p\nsection r " + kind + " 1\n" + row + "\nsection s " + other + " 1\n" + row
                self.assertEqual(line_at_fault(both), 5)

    def test_parts_of_items_too_many_and_too_few(self):
        for kind, words in FORMS.items():
            for word, form in words.items():
                head = "piece p\nsection s " + kind + " 1\n"
                parts = [word] + ["a" if bounds is None else "1" for bounds in form]
                for extra in ("0", "a", "-"):
                    self.assertEqual(line_at_fault(head + " ".join(parts + [extra])), 3)
                for many in range(1, len(parts)):
                    self.assertEqual(line_at_fault(head + " ".join(parts[:many])), 3)

    def test_parts_of_items_out_of_their_bounds(self):
        for kind, words in FORMS.items():
            head = "piece p\nsection s " + kind + " 1\n"
            for word, form in words.items():
                parts = [word] + ["a" if bounds is None else "1" for bounds in form]
                for k, bounds in enumerate(form):
                    right = ["a", "z" * 16, "x0"]
                    if bounds is not None:
                        right = [str(bounds[0]), str(bounds[1]), "0", "0x00", "-0b0"]
                    wrong = NO_NAMES if bounds is None else NO_NUMBERS + [str(bounds[0] - 1), str(bounds[1] + 1)]
                    for row, line in [(text, None) for text in right] + [(text, 3) for text in wrong]:
                        told = head + " ".join(parts[:k + 1] + [row] + parts[k + 2:])
                        with self.subTest(told):
                            self.assertEqual(line_at_fault(told), line)

    def test_words_that_begin_no_line(self):
        for row in ("nop", "Halt", "HALT", "halt.", "halts", "local", "strong", "0", "-1", "code", "sections s code 1"):
            self.assertEqual(line_at_fault("piece p\nsection s code 1\n" + row), 3)

    def test_symbol_lines(self):
        head = "piece p\nsection s code 1\nhalt\nhalt\nsection d data 1\nroom 4\nsection e data 1\n"
        for rest in ("a local 0 0", "a strong 0 2", "a weak 1 4", "a local 2 0", "a common 1", "a common 500",
                     "a maybe", "a common 0x1", "a weak 0b1 0x04", "maybe maybe"):
            with self.subTest(rest):
                self.assertIsNone(line_at_fault(head + "symbol " + rest))
        for rest in ["", "a", "a local", "a local 0", "a local 0 0 0", "a strong", "a strong 1", "a strong 0 0 0",
                     "a weak", "a weak 0", "a weak 0 0 0", "a common", "a common 1 1", "a maybe 0", "a maybe 0 0",
                     "a maybe none", "a global 0 0", "a Strong 0 0", "a none", "maybe", "a 0 0", "local 0 0",
                     "a strong 0 3", "a strong 1 5", "a strong 2 1", "a strong 3 0", "a strong 8 0", "a strong 0 -1",
                     "a strong -1 0", "a local 0 3", "a weak 0 3", "a local 3 0", "a weak 3 0", "a weak -1 0",
                     "a strong s 0", "a strong 0 s", "a common 0", "a common 501", "a common -1", "a common a"]:
            with self.subTest(rest):
                self.assertEqual(line_at_fault(head + "symbol " + rest), 8)
        for name in NO_NAMES:
            self.assertEqual(line_at_fault(head + "symbol " + name + " maybe"), 8)
        for word in NO_NUMBERS:
            for rest in ("a strong 0 " + word, "a weak " + word + " 0", "a common " + word):
                self.assertEqual(line_at_fault(head + "symbol " + rest), 8)

    def test_a_place_without_sections(self):
        self.assertEqual(line_at_fault("piece p\nsymbol a strong 0 0\n"), 2)
        self.assertIsNone(line_at_fault("piece p\nsymbol a common 4\n"))

    def test_a_symbol_whose_name_stood(self):
        head = "piece p\nsymbol b maybe\nsymbol a common 4\n"
        for rest in ("b maybe", "a maybe", "a common 4", "b common 1"):
            self.assertEqual(line_at_fault(head + "symbol " + rest), 4)
            self.assertEqual(line_at_fault(head + "symbol c maybe\nsymbol " + rest + "\nsymbol c maybe"), 5)

    def test_one_symbol_too_many(self):
        rows = ["symbol x" + str(k) + " maybe\n" for k in range(70)]
        self.assertEqual(len(read("piece p\n" + "".join(rows[:60]))[2]), 60)
        self.assertIsNone(line_at_fault("piece p\n" + "".join(rows[:59])))
        self.assertEqual(line_at_fault("piece p\n" + "".join(rows[:61])), 62)
        self.assertEqual(line_at_fault("piece p\n" + "".join(rows)), 62)


class Drawn:
    """Pieces and texts by chance, the same ones in each run."""

    def __init__(self, seed):
        self.chance = random.Random(seed)

    def name(self):
        rest = self.chance.choices(LETTERS + "0123456789", k=self.chance.randint(0, 15))
        return self.chance.choice(LETTERS) + "".join(rest)

    def item(self, kind):
        word = self.chance.choice(list(FORMS[kind]))
        return (word,) + tuple([self.name() if bounds is None else self.chance.randint(*bounds)
                                for bounds in FORMS[kind][word]])

    def section(self):
        kind, unit = self.chance.choice([("code", 1), ("data", 1), ("data", 2), ("data", 4), ("data", 8)])
        items = [self.item(kind) for _ in range(self.chance.choice([0, 1, 3, 10]))]
        return (self.name(), kind, unit, tuple(items))

    def symbol(self, name, sections):
        binding = self.chance.choice(["local", "strong", "weak", "common", "maybe"])
        if binding == "maybe":
            return (name, binding, None)
        if binding == "common" or not sections:
            return (name, "common", self.chance.randint(1, 500))
        at = self.chance.randrange(len(sections))
        end = sum([item[1] if item[0] == "room" else 1 for item in sections[at][3]])
        return (name, binding, (at, self.chance.choice([0, end, self.chance.randint(0, end)])))

    def piece(self):
        sections = [self.section() for _ in range(self.chance.randint(0, 4))]
        names = sorted({self.name() for _ in range(self.chance.randint(0, 6))})
        return (self.name(), tuple(sections), tuple([self.symbol(name, sections) for name in names]))

    def number(self, number):
        base, figures = self.chance.choice([("", str(abs(number))), ("0x", format(abs(number), "x")),
                                            ("0b", format(abs(number), "b"))])
        if base == "":
            return str(number)
        sign = "-" if number < 0 or number == 0 and self.chance.random() < 0.2 else ""
        return sign + base + "0" * self.chance.choice([0, 0, 1, 5, 5000]) + figures

    def noisy(self, piece):
        """A text of the piece, with blanks, remarks, bases and noughts, symbols in any order."""
        lines = write(piece).split("\n")[:-1]
        symbols = [line for line in lines if line.startswith("symbol ")]
        lines = lines[:len(lines) - len(symbols)] + self.chance.sample(symbols, len(symbols))
        rows = []
        for line in lines:
            words = [self.number(int(word)) if word.lstrip("-").isdigit() else word for word in line.split(" ")]
            gap = " " * self.chance.choice([1, 1, 3])
            remark = self.chance.choice(["", "", "   ", " ; piece q", ";\t;"])
            rows.append(self.chance.choice(["", "  "]) + gap.join(words) + remark)
            rows += self.chance.choice([[], [], [""], ["   ", ";x"]])
        return "\n".join(rows) + self.chance.choice(["", "\n", "\n\n  "])

    def spoilt(self, text):
        """The text with some signs or lines changed, taken out, doubled."""
        lines = text.split("\n")
        for _ in range(self.chance.randint(1, 3)):
            at = self.chance.randrange(len(lines))
            deed = self.chance.randrange(5)
            if deed == 0:
                lines.insert(at, self.chance.choice(lines))
            elif deed == 1 and len(lines) > 1:
                lines.pop(at)
            elif deed == 2:
                words = lines[at].split(" ")
                words[self.chance.randrange(len(words))] = self.chance.choice(["0", "-1", "8", "a", "", "501", "0x2"])
                lines[at] = " ".join(words)
            elif deed == 3:
                lines[at] += self.chance.choice([" ", "0", " 0", " a", "\t", ";", "-"])
            else:
                other = self.chance.randrange(len(lines))
                lines[at], lines[other] = lines[other], lines[at]
        return "\n".join(lines)


class ByChance(unittest.TestCase):
    def test_each_piece_is_read_back(self):
        drawn = Drawn(1)
        for _ in range(300):
            piece = drawn.piece()
            self.assertIs(is_piece(piece), True)
            self.assertEqual(read(write(piece)), piece)
            self.assertEqual(read(drawn.noisy(piece)), piece)

    def test_the_lines_ahead_of_the_one_at_fault_can_stand(self):
        drawn = Drawn(2)
        refused = 0
        for _ in range(1500):
            text = drawn.spoilt(write(drawn.piece()))
            line = line_at_fault(text)
            if line is None:
                self.assertIs(is_piece(read(text)), True)
                continue
            refused += 1
            lines = text.split("\n")
            ahead = "".join([row + "\n" for row in lines[:line - 1]])
            self.assertEqual(line_at_fault("\n".join(lines[:line])), line)
            if [row for row in lines[:line - 1] if row.split(";")[0].strip(" ")]:
                self.assertIs(is_piece(read(ahead)), True)
            else:
                self.assertEqual(line_at_fault(ahead), line)
        self.assertGreater(refused, 300)

    def test_of_any_text_no_other_refusal(self):
        chance = random.Random(3)
        words = ["piece", "section", "symbol", "halt", "set", "a", "p", "code", "data", "1", "0", "-", "0x", "\n", "\n",
                 "\n", " ", "  ", ";", "\t", "~", "maybe", "common", "strong", "-1", "0b1", "\r", "\u00e9", "9" * 5000]
        for _ in range(2000):
            text = "".join([chance.choice(words) + chance.choice(["", " "]) for _ in range(chance.randint(0, 20))])
            for told in (text, "piece p\n" + text, "piece p\nsection s code 1\n" + text):
                line = line_at_fault(told)
                parts = told.split("\n")
                many = len(parts) if parts[-1] else len(parts) - 1
                self.assertTrue(line is None or 1 <= line <= many + 1)


class Interface(unittest.TestCase):
    def test_arguments_by_name(self):
        self.assertEqual(write(piece=PIECE), TEXT)
        self.assertEqual(read(text=TEXT), PIECE)

    def test_the_refusal_is_a_weld_error(self):
        with self.assertRaises(WeldError) as held:
            read("piece p\nwhat\n")
        self.assertIs(held.exception.__class__, NoText)
        self.assertEqual(held.exception.line, 2)

    def test_each_is_defined_in_its_file(self):
        for word in ("write", "read"):
            self.assertEqual(getattr(texts, word).__module__, "weldmill.texts")


if __name__ == "__main__":
    unittest.main()
