"""Point [26]."""
import random
import re
import unittest
from fractions import Fraction

from heednets.albums import album_text, is_album, is_name, read_album
from heednets.errors import InvalidBook, InvalidText
from tests.helper import (ALIKE, CHASE, HALF, LESS, NIL, ONE, PALS, SHY, STRANGE, TWO, WHEEL, Alike, Touchy,
                          assert_raises, assert_refused, assert_signature, deep, net_from, quiet, random_net,
                          states_of, wrong_nets, wrong_states)

SHAPES = [(rows, columns) for rows in range(1, 9) for columns in range(1, 9) if rows * columns <= 8]
NAMES = ("a", "aa", "ab", "b", "boards", "cells", "left", "picturea", "z", "zz", "zzzzzzzz")
FIGURES = re.compile(r"0|-?[1-9][0-9]*(/[1-9][0-9]*)?")


def random_album(rng):
    shape = rng.choice(SHAPES)
    many = shape[0] * shape[1]
    names = sorted(rng.sample(NAMES, rng.choice([0, 1, 2, 3, 8])))
    return (shape, random_net(rng, many, -12, 12, 7), tuple((name, rng.choice(states_of(many))) for name in names))


def text_by_all(album):
    """The text by its words."""
    (height, width), (weights, marks), pictures = album
    rows = [" ".join(["board", str(height), str(width)])]
    for row, mark in zip(weights, marks):
        rows.append(" ".join(["cell"] + [str(Fraction(*part)) for part in row + (mark,)]))
    for name, state in pictures:
        rows.append("picture " + name)
        rows += ["".join(".#"[on] for on in state[at:at + width]) for at in range(0, len(state), width)]
    return "".join(row + "\n" for row in rows)


def fits_first(row):
    return row in ["board {} {}\n".format(*shape) for shape in SHAPES]


def fits_cell(row, cell, many):
    words = row[:-1].split(" ")
    if not row.endswith("\n") or words[0] != "cell" or len(words) != many + 2 or words[1 + cell] != "0":
        return False
    # Of the texts of fractions only the one in least terms is what Python tells of the number.
    return all(FIGURES.fullmatch(word) and str(Fraction(word)) == word for word in words[1:])


def wrong_row(text):
    """The index of the first row that no album's text goes on with, or that is due; None; by the words."""
    rows = re.findall(r"[^\n]*\n|[^\n]+", text)
    if not rows or not fits_first(rows[0]):
        return 0
    height, width = map(int, rows[0].split()[1:])
    many = height * width
    for cell in range(many):
        if len(rows) == 1 + cell or not fits_cell(rows[1 + cell], cell, many):
            return 1 + cell
    at, names = 1 + many, [""]
    while at < len(rows):
        found = re.fullmatch(r"picture ([a-z]{1,8})\n", rows[at])
        if not found or found[1] in ("board", "cell", "picture") or found[1] <= names[-1] or len(names) == 9:
            return at
        names.append(found[1])
        for there in range(at + 1, at + 1 + height):
            if there == len(rows) or not re.fullmatch("[#.]{%d}\n" % width, rows[there]):
                return there
        at += 1 + height
    return None


class Names(unittest.TestCase):
    def test_names(self):
        for value in NAMES + ("abcdefgh", "boar", "cel", "pictures", "nopqrstu", "vwxyz"):
            self.assertIs(is_name(value), True)
            self.assertIs(is_name(value=value), True)

    def test_values_that_are_none(self):
        for value in STRANGE:
            self.assertIs(is_name(value), isinstance(value, str) and value in ("ab", "rest"), value)
        for value in ("", "abcdefghi", "board", "cell", "picture", "A", "aB", "a b", " a", "a ", "a1", "1", "a-b",
                      "a_b", "a\n", "\n", "\u00e9", "a\u00e9", "\u0430", "\uff41", b"a", ["a"], ("a",), ("a", "b"), 1,
                      Alike(), Touchy(), "z" * 1000):
            self.assertIs(is_name(value), False, value)
            self.assertIs(is_name(value=value), False, value)


class IsAlbum(unittest.TestCase):
    def test_albums(self):
        rng = random.Random(80)
        for _ in range(60):
            album = random_album(rng)
            self.assertIs(is_album(album), True)
            self.assertIs(is_album(value=album), True)

    def test_all_shapes(self):
        for height in range(1, 10):
            for width in range(1, 10):
                many = height * width
                for cells in range(1, 9):
                    self.assertIs(is_album(((height, width), quiet(cells), ())), many == cells)

    def test_two_pictures_of_one_state(self):
        self.assertIs(is_album(((1, 2), PALS, (("a", (1, 0)), ("b", (1, 0))))), True)
        self.assertIs(is_album(((1, 2), PALS, (("a", (1, 0)), ("a", (0, 1))))), False)

    def test_eight_pictures_and_nine(self):
        pictures = tuple((letter, (0,)) for letter in "abcdefghi")
        self.assertIs(is_album(((1, 1), SHY, pictures[:8])), True)
        self.assertIs(is_album(((1, 1), SHY, pictures)), False)


def wrong_albums():
    """Pairs of a value that is no album and the index that is told."""
    right = ((1, 2), PALS, (("left", (1, 0)), ("right", (0, 1))))
    wrong = [((), None), (right[:2], None), (right + ((),), None), (list(right), None), ("abc", None), (b"abc", None),
             ({1: 2}, None), ((None,) * 4, None), ((Alike(), Alike(), Alike()), 0), (Alike(), None), (Touchy(), None)]
    for shape in STRANGE + ((), (1,), (2,), (1, 2, 1), [1, 2], {1, 2}, (0, 2), (2, 0), (-1, -2), (1, 9), (9, 1),
                            (True, 2), (1, None), (1, "2"), ((1,), 2), ("1", "2"), (1, Touchy()), (None, 1)):
        wrong.append(((shape, PALS, ()), 0))
    wrong.append(((None, None, None), 0))
    for net in wrong_nets() + [SHY, WHEEL, quiet(8), Touchy()]:
        wrong.append((((1, 2), net, ()), 1))
        wrong.append((((2, 1), net, None), 1))
    for shape in ((2, 2), (1, 1), (8, 8), (1, 3), (4, 2)):
        wrong.append(((shape, PALS, ()), 1))
    left = ("left", (1, 0))
    for pictures in STRANGE + ([], [left], {left: 1}, left, ("left",), (left, left), (("right", (0, 1)), left),
                               (left, ("left", (0, 1))), (left, None), (None,), (("left",),), (("left", (1, 0), 0),),
                               (["left", (1, 0)],), (("cell", (1, 0)),), (("", (1, 0)),), (((1, 0), "left"),),
                               (("abcdefghi", (1, 0)),), ((None, (1, 0)),), ((Touchy(), (1, 0)),), (Touchy(),),
                               tuple((name, (0, 0)) for name in "abcdefghi"), (("b", (0, 0)), ("aa", (0, 0))),
                               (("b", (0, 0)), ("c", (0, 0)), ("bb", (0, 0)))):
        wrong.append((((1, 2), PALS, pictures), 2))
    for state in wrong_states(2):
        wrong.append((((1, 2), PALS, (("left", state),)), 2))
        wrong.append((((1, 2), PALS, (left, ("right", state))), 2))
    return wrong + [(value, None) for value in STRANGE]


class Texts(unittest.TestCase):
    def test_there_and_back(self):
        rng = random.Random(81)
        texts = {}
        for _ in range(150):
            album = random_album(rng)
            text = album_text(album)
            self.assertEqual(text, text_by_all(album))
            self.assertEqual(album_text(album=album), text)
            self.assertEqual(repr(read_album(text)), repr(album))
            self.assertEqual(repr(read_album(text=text)), repr(album))
            self.assertIs(wrong_row(text), None)
            self.assertIn(texts.setdefault(text, repr(album)), (repr(album),))

    def test_all_shapes(self):
        for shape in SHAPES:
            many = shape[0] * shape[1]
            state = (1,) + (0,) * (many - 1)
            album = (shape, quiet(many), (("one", state),))
            text = album_text(album)
            self.assertEqual(text.split("\n")[0], f"board {shape[0]} {shape[1]}")
            self.assertEqual([len(row) for row in text.split("\n")[2 + many:-1]], [shape[1]] * shape[0])
            self.assertEqual(read_album(text), album)

    def test_the_board_is_told_row_by_row(self):
        album = ((2, 3), quiet(6), (("b", (1, 0, 0, 0, 1, 1)), ("z", (0, 1, 0, 0, 0, 0))))
        self.assertEqual(album_text(album).split("\n")[7:], ["picture b", "#..", ".##", "picture z", ".#.", "...", ""])

    def test_fractions(self):
        net = net_from([[0, "-1/2"], [12, 0]], ["-7", "10/3"])
        self.assertEqual(album_text(((2, 1), net, ())), "board 2 1\ncell 0 -1/2 -7\ncell 12 0 10/3\n")
        self.assertEqual(album_text(((1, 1), (((NIL,),), (NIL,)), ())), "board 1 1\ncell 0 0\n")

    def test_numbers_of_many_figures(self):
        great = 10 ** 399 + 7
        album = ((1, 2), net_from([[0, great], [Fraction(-great, great + 2), 0]], [Fraction(1, great), -great]), ())
        self.assertEqual(read_album(album_text(album)), album)
        text = "board 1 1\ncell 0 -" + "7" * 4000 + "\n"
        self.assertEqual(album_text(read_album(text)), text)


class Reading(unittest.TestCase):
    def check(self, text, line):
        self.assertEqual(wrong_row(text), line, text)
        if line is None:
            self.assertEqual(album_text(read_album(text)), text)
        else:
            assert_refused(self, InvalidText, "line", line, read_album, (text,))

    def test_missing_rows_are_due(self):
        self.check("", 0)
        self.check("board 1 2\n", 1)
        self.check("board 1 2\ncell 0 1 1/2\n", 2)
        self.check("board 1 2\ncell 0 1 1/2\ncell 1 0 1/2\n", None)
        self.check("board 2 1\ncell 0 1 1/2\ncell 1 0 1/2\npicture a\n", 4)
        self.check("board 2 1\ncell 0 1 1/2\ncell 1 0 1/2\npicture a\n#\n", 5)
        self.check("board 2 1\ncell 0 1 1/2\ncell 1 0 1/2\npicture a\n#\n.\n", None)

    def test_a_row_without_its_line_end(self):
        self.check("board 1 1", 0)
        self.check("board 1 1\ncell 0 1/2", 1)
        self.check("board 1 1\ncell 0 1/2\npicture a", 2)
        self.check("board 1 1\ncell 0 1/2\npicture a\n#", 3)
        self.check("board 1 1\ncell 0 1/2\npicture a\n#\n", None)
        self.check("board 1 1\ncell 0 1/2\npicture a\n#\npictur", 4)

    def test_each_text_is_read_up_to_each_place(self):
        rng = random.Random(82)
        for _ in range(12):
            text = album_text(random_album(rng))
            for end in range(len(text)):
                self.check(text[:end], wrong_row(text[:end]))

    def test_wrong_first_rows(self):
        behind = "cell 0 1 1/2\ncell 1 0 1/2\n"
        for row in ("", " ", "board", "board 1", "board 2", "board 1 2 ", " board 1 2", "board  1 2", "board 1  2",
                    "board 1 2 1", "board 01 2", "board 1 02", "board +1 2", "board 1.0 2", "board -1 -2", "board 0 2",
                    "board 1 0", "board 9 1", "board 1 9", "board 3 3", "board 8 8", "board 2 1/1", "Board 1 2",
                    "BOARD 1 2", "bord 1 2", "boards 1 2", "board\t1 2", "board 1 2\r", "board 1,2", "cell 0 1 1/2",
                    "picture a", "board a b", "board 1 \u0662", "board \u00b9 2"):
            self.check(row + "\n" + behind, 0)

    def test_wrong_rows_of_cells(self):
        for row in ("", "cell", "cell 0", "cell 0 1", "cell 0 1 1/2 0", "cell 0 1 1/2 ", " cell 0 1 1/2", "Cell 0 1 1",
                    "cell  0 1 1/2", "cell 0 1  1/2", "cell 1 0 1/2", "cell 0/1 1 1/2", "cell -0 1 1/2", "cell 00 1 1",
                    "cell 0 01 1/2", "cell 0 1 01/2", "cell 0 1 1/02", "cell 0 1 2/4", "cell 0 1 4/2", "cell 0 1 1/1",
                    "cell 0 -0 1", "cell 0 1 -0", "cell 0 1 0/2", "cell 0 1 -0/1", "cell 0 1 1/0", "cell 0 1 0/0",
                    "cell 0 1 1/-2", "cell 0 1 -1/-2", "cell 0 1 --1", "cell 0 1 +1", "cell 0 1 1/", "cell 0 1 /2",
                    "cell 0 1 /", "cell 0 1 -", "cell 0 1 1/2/3", "cell 0 1 1//2", "cell 0 1 1.5", "cell 0 1 1e3",
                    "cell 0 1 1_0", "cell 0 1 a", "cell 0 1 - 1", "cell 0 1 -/2", "cell 0 1 1/2\r", "cell\t0 1 1/2",
                    "cell 0\t1 1/2", "cells 0 1 1/2", "ell 0 1 1/2", "cell 0 1 \u0661", "cell 0 1 1/\u00b2", "cell #.",
                    "cell 0 1 9" + "0" * 30 + "/3", "board 1 2", "picture a", "#."):
            self.check("board 1 2\n" + row + "\ncell 1 0 1/2\n", 1)
        for row in ("cell 0 1 1/2", "cell 1 1 1/2", "cell 1 -1 0", "cell 1 0", ""):
            self.check("board 1 2\ncell 0 1 1/2\n" + row + "\n", 2)
        for row in ("cell 0 1 1/2", "cell 0 -1 -1/2", "cell 0 0 0", "cell 0 10/3 -9", "cell 0 1 7/10"):
            self.check("board 1 2\n" + row + "\ncell 1 0 1/2\n", None)

    def test_wrong_rows_of_pictures(self):
        ahead = "board 2 2\n" + "".join(row + "\n" for row in (
            "cell 0 1 1 1 1", "cell 1 0 1 1 1", "cell 1 1 0 1 1", "cell 1 1 1 0 1"))
        self.check(ahead, None)
        for row in ("", " ", "picture", "picture ", "picture  a", "picture a ", " picture a", "picture a b",
                    "Picture a", "picture A", "picture abcdefghi", "picture board", "picture cell", "picture picture", "picture a1",
                    "picture 1", "picture\ta", "picture a\r", "pictures a", "cell 1 1 1 1 0", "board 2 2", "#.",
                    "picture \u00e9", "a"):
            self.check(ahead + row + "\n#.\n##\n", 5)
        for row in ("", "#", "#.#", "# .", "#. ", " #.", "#,", "##\r", "##.", "10", "xx", "picture b", "#\t",
                    "\uff0e#"):
            self.check(ahead + "picture a\n" + row + "\n##\n", 6)
            self.check(ahead + "picture a\n##\n" + row + "\n", 7)
            self.check(ahead + "picture a\n##\n..\npicture b\n..\n" + row + "\npicture c\n..\n..\n", 10)

    def test_names_ascend(self):
        def told(*names):
            return "board 1 1\ncell 0 0\n" + "".join(f"picture {name}\n#\n" for name in names)
        self.check(told("a", "b"), None)
        self.check(told("a", "aa", "b", "ba"), None)
        self.check(told("abcdefgh", "b"), None)
        self.check(told("a", "a"), 4)
        self.check(told("b", "a"), 4)
        self.check(told("aa", "a"), 4)
        self.check(told("a", "c", "b"), 6)
        self.check(told("a", "b", "a"), 6)

    def test_eight_pictures_and_nine(self):
        text = "board 1 1\ncell 0 0\n" + "".join(f"picture {name}\n#\n" for name in "abcdefghi")
        self.check(text[:-len("picture i\n#\n")], None)
        self.check(text, 18)
        self.check(text[:-2], 18)

    def test_the_first_wrong_row_is_told(self):
        self.check("board 1 1\ncell 1 0\nfly\nboard", 1)
        self.check("board 1 1\ncell 0 0\nfly\nboard", 2)
        self.check("\n", 0)
        self.check("\n\n\n", 0)
        self.check("board 1 1\n\n", 1)
        self.check("board 1 1\ncell 0 0\n\n", 2)
        self.check("board 1 1\ncell 0 0\npicture a\n\n", 3)
        self.check("board 1 1\r\ncell 0 0\r\n", 0)
        self.check("board 1 1\vcell 0 0\n", 0)
        self.check("board 1 1\u2028cell 0 0\n", 0)

    def test_texts_with_one_sign_changed(self):
        rng = random.Random(83)
        told = set()
        for _ in range(2500):
            text = album_text(random_album(rng))
            at = rng.randrange(len(text))
            put = rng.choice(["", " ", "\n", "0", "1", "-", "/", "#", ".", "a", "z", "2/", "/3", "\n\n"])
            changed = text[:at] + put + text[at + rng.randint(0, 1):]
            line = wrong_row(changed)
            self.check(changed, line)
            told.add(line is None)
        self.assertEqual(told, {True, False})

    def test_texts_with_rows_in_another_order(self):
        rng = random.Random(84)
        for _ in range(300):
            rows = album_text(random_album(rng)).split("\n")[:-1]
            one, other = rng.randrange(len(rows)), rng.randrange(len(rows))
            rows[one], rows[other] = rows[other], rows[one]
            if rng.random() < 0.5:
                del rows[rng.randrange(len(rows))]
            text = "".join(row + "\n" for row in rows)
            self.check(text, wrong_row(text))


class Wrong(unittest.TestCase):
    def test_wrong_albums(self):
        for value, index in wrong_albums():
            self.assertIs(is_album(value), False, value)
            assert_refused(self, InvalidBook, "index", index, album_text, (value,))

    def test_what_is_no_text(self):
        for value in STRANGE + ((), 0, 1, b"board 1 1\ncell 0 0\n", ["board 1 1\n"], deep(60), Alike(), Touchy()):
            if not isinstance(value, str):
                assert_refused(self, InvalidText, "line", None, read_album, (value,))
            else:
                assert_raises(self, InvalidText, "line", 0, read_album, value)

    def test_parameters_have_the_names_of_the_document(self):
        for call, names in ((is_album, "value"), (is_name, "value"), (album_text, "album"), (read_album, "text")):
            assert_signature(self, call, names)

    def test_known_albums(self):
        self.assertEqual(read_album("board 1 2\ncell 0 1 1/2\ncell -1 0 -1/2\npicture a\n##\n"),
                         ((1, 2), CHASE, (("a", ALIKE[1]),)))
        self.assertEqual(album_text(((1, 2), (((NIL, TWO), (LESS, NIL)), (ONE, HALF)), (("a", (0, 1)),))),
                         "board 1 2\ncell 0 2 1\ncell -1 0 1/2\npicture a\n.#\n")


if __name__ == "__main__":
    unittest.main()
