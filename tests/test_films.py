"""Point [31]."""
import random
import re
import unittest

from heednets.errors import InvalidDrawing, InvalidLines, InvalidNumber, InvalidStates
from heednets.films import drawing, read_drawing, read_rows, rows_of
from tests.helper import STRANGE, Alike, Touchy, assert_refused, assert_signature, deep, states_of, wrong_states
from tests.second import SHAPES

FILM = ((1, 0, 0, 1), (0, 0, 1, 1))
WRONG_SHAPES = STRANGE + ((), (1,), (1, 2, 1), [1, 2], (0, 1), (1, 0), (-1, -2), (1, 9), (9, 1), (3, 3), (8, 8), (2, 5),
                          (True, 2), (2, True), (1, None), ("1", "2"), ((1,), 2), "12", b"12", {1, 2}, {1: 2}, 2,
                          (10 ** 300, 1), (Alike(), 1), (1, Touchy()), Alike(), Touchy(), (1, (2,)), (-2, -2))


def random_film(rng, shape, many=None):
    cells = shape[0] * shape[1]
    many = many or rng.choice([1, 2, 3, 12])
    return tuple(tuple(rng.randint(0, 1) for _ in range(cells)) for _ in range(many))


def sample_films(seed):
    rng = random.Random(seed)
    return [(shape, random_film(rng, shape, many)) for shape in SHAPES for many in (1, 2, 5, 12)]


def rows_by_all(shape, film):
    (height, width), rows = shape, []
    for row in range(height):
        rows.append(" ".join("".join("#" if state[row * width + column] == 1 else "." for column in range(width))
                             for state in film))
    return tuple(rows)


def drawing_by_all(shape, film):
    height, width = shape
    text = '<svg xmlns="http://www.w3.org/2000/svg" viewBox="0 0 {} {}">'.format(
        10 * (width + 1) * len(film), 10 * (height + 1))
    for k, state in enumerate(film):
        for row in range(height):
            for column in range(width):
                if state[row * width + column] == 1:
                    x, y = 10 * (k * (width + 1) + column), 10 * row
                    text += '\n<rect x="{}" y="{}" width="9" height="9"/>'.format(x, y)
    return text + "\n</svg>"


def wrong_films(many):
    """Pairs of a value that is no film of so many cells and the index that is told."""
    dark = (0,) * many
    wrong = [((), None), ([dark], None), ((dark,) * 13, None), ((None,) * 13, None), ({dark: 1}, None),
             (dark * 13, None),
             ((dark, dark, dark[1:]), 2), ((dark + (0,), dark), 0), ((dark, None, None), 1), ((None,) * 12, 0),
             (((),), 0), ((dark, list(dark)), 1), ((dark, dark[1:] + (True,)), 1), ((dark, dark[1:] + (2,)), 1),
             ((Alike(),), 0), ((dark, Touchy()), 1), (Alike(), None), (Touchy(), None)]
    wrong += [((state,), 0) for state in wrong_states(many)] + [((dark, state), 1) for state in wrong_states(many)]
    return wrong + [(value, 0 if isinstance(value, tuple) else None) for value in STRANGE]


class Rows(unittest.TestCase):
    def test_there_and_back(self):
        for shape, film in sample_films(150):
            rows = rows_of(shape, film)
            self.assertEqual(repr(rows), repr(rows_by_all(shape, film)))
            self.assertEqual(rows_of(shape=shape, film=film), rows)
            self.assertEqual(repr(read_rows(shape, rows)), repr(film))
            self.assertEqual(read_rows(shape=shape, rows=rows), film)

    def test_all_films_of_one_state_and_of_two(self):
        for shape in ((1, 1), (1, 2), (2, 1), (2, 2)):
            for one in states_of(shape[0] * shape[1]):
                self.assertEqual(read_rows(shape, rows_of(shape, (one,))), (one,))
                for other in states_of(shape[0] * shape[1]):
                    self.assertEqual(read_rows(shape, rows_of(shape, (one, other))), (one, other))

    def test_one_row_one_column_one_cell(self):
        self.assertEqual(rows_of((1, 3), ((1, 0, 0), (0, 1, 1))), ("#.. .##",))
        self.assertEqual(rows_of((3, 1), ((1, 0, 0), (0, 1, 1))), ("# .", ". #", ". #"))
        self.assertEqual(rows_of((1, 1), ((0,), (1,), (1,))), (". # #",))
        self.assertEqual(rows_of((2, 3), ((1, 0, 0, 0, 1, 1),)), ("#..", ".##"))
        self.assertEqual(read_rows((1, 1), ("#" + " ." * 11,)), ((1,),) + ((0,),) * 11)

    def test_wrong_rows(self):
        for rows, index in ((("#. ..", ".#"), 1), (("#.", ".# ##"), 1), (("#.  ..", ".# ##"), 0),
                            (("#. ..", ".#  ##"), 1), ((" #. ..", ".# ##"), 0), (("#. .. ", ".# ##"), 0),
                            (("#. ..", ".# ## "), 1), (("#. ..", " .# ##"), 1), (("#. ..", ".# ## #."), 1),
                            (("#. ..", ".# ###"), 1), (("#. ...", ".# ##"), 0), (("#. ..", ".# #"), 1),
                            (("", ""), 0), ((".", "."), 0), (("#.", ""), 1), (("#.", "#"), 1), (("#.", "#.#"), 1),
                            (("#.", "# ."), 1), (("#.\n", "#."), 0), (("#.", "#.\n"), 1), (("#.\t..", ".# ##"), 0),
                            (("#x", "#."), 0), (("#.", "1."), 1), (("#.", "#,"), 1), ((b"#.", "#."), 0),
                            (("#.", b"#."), 1), (("#.", None), 1), ((None, "#."), 0), (("#.", ["#."]), 1),
                            (("#.", ("#.",)), 1), (("#.", Alike()), 1), ((Touchy(), "#."), 0), (("#.", 1), 1),
                            ((" ".join(["#."] * 13), "#."), 0), ((" ".join(["#."] * 13),) * 2, 0),
                            ((" ".join(["#."] * 12), " ".join(["#."] * 13)), 1), (("#.", " "), 1),
                            (("#.\u00a0..", ".# ##"), 0), (("#.", "\uff03."), 1),
                            ((), None), (("#.",), None), (("#.", "#.", "#."), None), (["#.", "#."], None),
                            ("#.", None), ("#.\n#.", None), (b"#.", None), ({"#.": 1, "..": 2}, None), (None, None)):
            assert_refused(self, InvalidLines, "index", index, read_rows, ((2, 2), rows))
        for value in STRANGE + (Alike(), Touchy()):
            if not isinstance(value, tuple):
                assert_refused(self, InvalidLines, "index", None, read_rows, ((2, 2), value))

    def test_rows_of_another_shape(self):
        for shape, rows, index in (((1, 1), ("##",), 0), ((1, 2), ("#",), 0), ((2, 1), ("#",), None),
                                   ((1, 1), ("#", "#"), None), ((4, 2), ("#." + " .#" * 2,) * 3 + ("#. .#",), 3),
                                   ((8, 1), ("#",) * 7 + ("",), 7), ((1, 8), ("#" * 7,), 0), ((1, 8), ("#" * 9,), 0)):
            assert_refused(self, InvalidLines, "index", index, read_rows, (shape, rows))


class Drawings(unittest.TestCase):
    def test_there_and_back(self):
        for shape, film in sample_films(151):
            text = drawing(shape, film)
            self.assertEqual(text, drawing_by_all(shape, film))
            self.assertEqual(drawing(shape=shape, film=film), text)
            self.assertEqual(repr(read_drawing(text, shape, len(film))), repr(film))
            self.assertEqual(read_drawing(drawing=text, shape=shape, many=len(film)), film)

    def test_dark_films(self):
        for shape in SHAPES:
            for many in (1, 12):
                film = ((0,) * (shape[0] * shape[1]),) * many
                text = drawing(shape, film)
                self.assertEqual(len(text.split("\n")), 2)
                self.assertEqual(read_drawing(text, shape, many), film)

    def test_a_known_drawing(self):
        self.assertEqual(drawing((2, 2), FILM).split("\n"), [
            '<svg xmlns="http://www.w3.org/2000/svg" viewBox="0 0 60 30">',
            '<rect x="0" y="0" width="9" height="9"/>', '<rect x="10" y="10" width="9" height="9"/>',
            '<rect x="30" y="10" width="9" height="9"/>', '<rect x="40" y="10" width="9" height="9"/>', '</svg>'])

    def refuse(self, text, shape, many):
        assert_refused(self, InvalidDrawing, "given", text, read_drawing, (text, shape, many))

    def test_lines_left_out_doubled_in_another_order_or_too_many(self):
        rng = random.Random(152)
        for shape, film in sample_films(153)[::3]:
            lines = drawing(shape, film).split("\n")
            for _ in range(6):
                at, there = rng.randrange(len(lines)), rng.randrange(len(lines))
                for wrong in (lines[:at + 1] + lines[at:], lines[:at] + [""] + lines[at:],
                              lines[:at] + ['<rect x="1" y="0" width="9" height="9"/>'] + lines[at:],
                              lines[:at] + [lines[at] + " "] + lines[at + 1:], lines + [""], [""] + lines,
                              lines[:at] + [" " + lines[at]] + lines[at + 1:]):
                    self.refuse("\n".join(wrong), shape, len(film))
                if lines[at] != lines[there]:
                    swapped = list(lines)
                    swapped[at], swapped[there] = lines[there], lines[at]
                    self.refuse("\n".join(swapped), shape, len(film))
            for wrong in (lines[1:], lines[:-1], [lines[0]], [lines[-1]], [], lines[:1] + lines):
                self.refuse("\n".join(wrong), shape, len(film))

    def test_a_cell_left_out_is_the_film_without_it(self):
        lines = drawing((2, 2), FILM).split("\n")
        self.assertEqual(read_drawing("\n".join(lines[:2] + lines[3:]), (2, 2), 2), ((1, 0, 0, 0), (0, 0, 1, 1)))

    def test_line_ends(self):
        text = drawing((2, 2), FILM)
        for wrong in (text + "\n", "\n" + text, text.replace("\n", "\r\n"), text.replace("\n", ""), text + " ",
                      text.replace("\n", "\n\n"), text.replace("\n", " "), ""):
            self.refuse(wrong, (2, 2), 2)

    def test_of_another_shape_or_another_number_of_states(self):
        for shape, film in sample_films(154):
            text = drawing(shape, film)
            for other in SHAPES:
                for many in (1, 2, 3, 5, 12):
                    if (other, many) != (shape, len(film)):
                        # Films of two kinds may have one first line; then their cells may lie at the same places.
                        due = self.film_by_lines(text, other, many)
                        if due:
                            self.assertEqual(read_drawing(text, other, many), due)
                        else:
                            self.refuse(text, other, many)
        for shape, many in (((1, 4), 2), ((4, 1), 2), ((2, 2), 1), ((2, 2), 3), ((2, 1), 2), ((1, 2), 2), ((1, 1), 1)):
            self.refuse(drawing((2, 2), FILM), shape, many)

    def film_by_lines(self, text, shape, many):
        """The film of the kind whose drawing it is, by its places; None."""
        height, width = shape
        film = [[0] * (height * width) for _ in range(many)]
        for x, y in re.findall('<rect x="([0-9]+)" y="([0-9]+)"', text):
            k, column = divmod(int(x) // 10, width + 1)
            if k >= many or column >= width or int(y) // 10 >= height:
                return None
            film[k][int(y) // 10 * width + column] = 1
        film = tuple(tuple(state) for state in film)
        return film if drawing_by_all(shape, film) == text else None

    def test_one_sign_changed(self):
        rng = random.Random(155)
        for _ in range(400):
            shape = rng.choice(SHAPES)
            film = random_film(rng, shape)
            text = drawing(shape, film)
            at = rng.randrange(len(text))
            put = rng.choice(["", " ", "\n", "0", "1", "9", '"', "/", "<", ">", "x", "X", "-", "\u0660"])
            wrong = text[:at] + put + text[at + rng.randint(0, 1):]
            due = self.film_by_lines(wrong, shape, len(film))
            if due is None:
                self.refuse(wrong, shape, len(film))
            else:
                self.assertEqual(read_drawing(wrong, shape, len(film)), due)


class Wrong(unittest.TestCase):
    def test_wrong_shapes(self):
        for value in WRONG_SHAPES:
            for call in (rows_of, drawing, read_rows):
                assert_refused(self, InvalidNumber, "given", value, call, (value, None))
            assert_refused(self, InvalidNumber, "given", value, read_drawing, ("", value, None))

    def test_wrong_films(self):
        for shape in ((1, 1), (1, 2), (2, 1), (2, 2), (1, 8)):
            for value, index in wrong_films(shape[0] * shape[1]):
                for call in (rows_of, drawing):
                    assert_refused(self, InvalidStates, "index", index, call, (shape, value))

    def test_what_is_no_string(self):
        for value in STRANGE + (b"<svg>", ["</svg>"], Alike(), Touchy(), deep(60), 0):
            if not isinstance(value, str):
                assert_refused(self, InvalidDrawing, "given", value, read_drawing, (value, None, None))
            else:
                assert_refused(self, InvalidDrawing, "given", value, read_drawing, (value, (1, 1), 1))

    def test_wrong_numbers_of_states(self):
        text = drawing((1, 2), ((0, 1),))
        for value in STRANGE + (0, 13, -1, (1,), "1", [1], Alike(), Touchy()):
            assert_refused(self, InvalidNumber, "given", value, read_drawing, (text, (1, 2), value))
            assert_refused(self, InvalidNumber, "given", value, read_drawing, ("no drawing", (1, 2), value))

    def test_parameters_have_the_names_of_the_document(self):
        for call, names in ((rows_of, "shape film"), (read_rows, "shape rows"), (drawing, "shape film"),
                            (read_drawing, "drawing shape many")):
            assert_signature(self, call, names)


if __name__ == "__main__":
    unittest.main()
