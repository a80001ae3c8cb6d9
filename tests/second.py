"""A plain second reckoning of deeds, books, pictures' nets and the console, and values that are wrong there."""
import random
import re
from fractions import Fraction

from tests.helper import (HALF, NIL, ONE, STRANGE, Alike, Touchy, deep, lifted_by_all, net_from, number,
                          pair, random_net, random_scaled, states_of, wants, wrong_states)

SHAPES = [(rows, columns) for rows in range(1, 9) for columns in range(1, 9) if rows * columns <= 8]
NAMES = ("a", "aa", "ab", "b", "boards", "cells", "left", "picturea", "z", "zz", "zzzzzzzz")


def number_by_all(state):
    return sum(2 ** cell for cell in range(len(state)) if state[cell] == 1)


def as_fractions(net):
    return [[number(heed) for heed in row] for row in net[0]], [number(mark) for mark in net[1]]


def turned_by_all(net, lot):
    """The net turned at the cells of a lot, by the words."""
    for k in lot:
        rows, marks = as_fractions(net)
        lifted = lifted_by_all(net)[k]
        cells = range(len(marks))
        turned_marks = [-lifted if i == k else marks[i] - rows[i][k] for i in cells]
        net = net_from([[-rows[i][j] if (i == k) != (j == k) else rows[i][j] for j in cells] for i in cells],
                       turned_marks)
    return net


def behind_by_all(net, deed):
    """The net behind a deed, by the words."""
    word, *parts = deed
    if word == "turn":
        return turned_by_all(net, parts[0])
    rows, marks = as_fractions(net)
    cells = list(range(len(marks)))
    if word == "weight":
        rows[parts[0]][parts[1]] = number(parts[2])
    elif word == "mark":
        marks[parts[0]] = number(parts[1])
    elif word == "cell":
        for i in cells:
            rows[i].append(number(parts[1][i]))
        rows.append([number(heed) for heed in parts[0]] + [Fraction(0)])
        marks.append(number(parts[2]))
    else:
        kept = [i for i in cells if i != parts[0]] if word == "strike" else parts[0]
        rows, marks = [[rows[i][j] for j in kept] for i in kept], [marks[i] for i in kept]
    return net_from(rows, marks)


def led_by_all(deed, state):
    """A state led along, by the words."""
    word, *parts = deed
    cells = range(len(state))
    if word == "cell":
        return tuple(list(state) + [0])
    if word == "strike":
        return tuple(state[i] for i in cells if i != parts[0])
    if word == "order":
        return tuple(state[i] for i in parts[0])
    if word == "turn":
        return tuple(1 - state[i] if i in parts[0] else state[i] for i in cells)
    return state


def leaves_by_all(net, deed):
    """The numbers of the states that a deed leaves, by the words."""
    word, *parts = deed
    many = len(net[1])
    if word == "cell":
        return ()
    if word == "strike":
        return tuple(range(2 ** (many - 1)))
    if word == "weight":
        i, j, new = parts
        old = net[0][i][j]
        left = [s for s in states_of(many) if s[j] == 0 or number(new) == number(old)
                or (wants(net, s)[i] == 1) == (number(new) > number(old))]
    elif word == "mark":
        i, new = parts
        old = net[1][i]
        left = [s for s in states_of(many) if number(new) == number(old)
                or (wants(net, s)[i] == 0) == (number(new) > number(old))]
    else:
        left = states_of(many)
    return tuple(sorted(number_by_all(s) for s in left))


def nexts_by_all(net):
    return tuple(wants(net, state) for state in states_of(len(net[1])))


def net_of_by_all(pictures):
    """The net of pictures, by the words."""
    many = len(pictures[0])
    rows = [[0 if i == j else sum(1 if p[i] == p[j] else -1 for p in pictures) for j in range(many)]
            for i in range(many)]
    return net_from(rows, [Fraction(sum(row), 2) for row in rows])


def any_fraction(rng):
    return pair(Fraction(rng.randint(-6, 6), rng.randint(1, 3)))


def random_deed(rng, net):
    """A deed that fits, of any kind that can."""
    many = len(net[1])
    cells = range(many)
    words = ["mark", "order", "turn"] + (["weight", "strike"] if many > 1 else []) + (["cell"] if many < 8 else [])
    word = rng.choice(words)
    i = rng.choice(cells)
    if word == "weight":
        j = rng.choice([j for j in cells if j != i])
        return ("weight", i, j, rng.choice([any_fraction(rng), any_fraction(rng), net[0][i][j]]))
    if word == "mark":
        heard = sum((number(net[0][i][j]) for j in cells if rng.random() < 0.5), Fraction(0))
        return ("mark", i, rng.choice([any_fraction(rng), pair(heard), net[1][i]]))
    if word == "cell":
        return ("cell", tuple(any_fraction(rng) for _ in cells), tuple(any_fraction(rng) for _ in cells),
                any_fraction(rng))
    if word == "strike":
        return ("strike", i)
    if word == "order":
        return ("order", tuple(rng.sample(list(cells), many)))
    return ("turn", tuple(sorted(rng.sample(list(cells), rng.randint(0, many)))))


def deed_nets(seed, times, most=4):
    rng = random.Random(seed)
    made = []
    for _ in range(times):
        many = rng.randint(1, most)
        made.append(random_net(rng, many))
        made.append(random_scaled(rng, many))
    return made


def wrong_deeds(many):
    """Values that are no deeds on a net of so many cells, most of them nearly deeds."""
    last, row = many - 1, (ONE,) * many
    wrong = [(), ("weight",), ("mark",), ("cell",), ("strike",), ("order",), ("turn",), ("fly",), ("", 0, ONE),
             ("Mark", 0, ONE), ("mark ", 0, ONE), ("mark", 0), ("mark", 0, ONE, ONE), ("mark", many, ONE),
             ("mark", -1, ONE), ("mark", False, ONE), (b"mark", 0, ONE), ["mark", 0, ONE], (("mark", 0, ONE),),
             (None, 0, ONE), (Alike(), 0, ONE), (Touchy(), 0, ONE), (["mark"], 0, ONE), (0, 0, ONE),
             ("mark", Alike(), ONE), ("mark", 0, Alike()), ("mark", 0, (1, Touchy())), ("mark", "0", ONE),
             ("mark", (0,), ONE), ("mark", None, ONE), ("mark", ONE, 0), "mark", ("m", "a", "r"),
             ("weight", 0, 0, ONE), ("weight", last, last, NIL), ("weight", 0, many, ONE), ("weight", many, 0, ONE),
             ("weight", -1, 0, ONE), ("weight", 0, -1, ONE), ("weight", 0, last), ("weight", 0, True, ONE),
             ("weight", False, last, ONE), ("weight", 0, None, ONE), ("weight", Alike(), 0, ONE),
             ("cell", row, row, HALF, (1, many + 1)), ("cell", row, row), ("cell", row + (ONE,), row, HALF),
             ("cell", row, row + (ONE,), HALF), ("cell", row[1:], row, HALF), ("cell", row, row[1:], HALF),
             ("cell", list(row), row, HALF), ("cell", row, list(row), HALF), ("cell", row, row, None),
             ("cell", row, row, 1), ("cell", row, row, (2, 4)), ("cell", row[1:] + ((2, 2),), row, HALF),
             ("cell", row, row[1:] + ((1, 0),), HALF), ("cell", row, row[1:] + (1,), HALF), ("cell", HALF, row, row),
             ("cell", None, row, HALF), ("cell", row, Touchy(), HALF), ("cell", row, row, Touchy()),
             ("strike", many), ("strike", -1), ("strike", True), ("strike", None), ("strike", (0,)),
             ("strike", 0, (1, many - 1)), ("strike", "0"), ("strike", Alike()),
             ("order", ()), ("order", tuple(range(many + 1))), ("order", tuple(range(many - 1))),
             ("order", list(range(many))), ("order", tuple(range(1, many + 1))), ("order", tuple(range(-1, many - 1))),
             ("order", (0,) * many + (0,)), ("order", *range(many + 1)), ("order", range(many)), ("order", None),
             ("order", tuple(range(many)), ()), ("order", (Alike(),) * many), ("order", "01234567"[:many]),
             ("turn", (many,)), ("turn", (0, 0)), ("turn", [0]), ("turn", []), ("turn", 0), ("turn", (-1,)),
             ("turn", (False,)), ("turn", None), ("turn", (), ()), ("turn", ((),)), ("turn", "0"), ("turn", (Alike(),)),
             ("keep", "a", (0,) * many), ("drop", "a"), ("made",), ("turn", (0, many)), Alike(), Touchy()]
    for bad in ((2, 4), (0, 2), (1, 0), (1, -1), (1,), (1, 2, 3), [1, 2], True, 1, None, "12", (True, 1), (1, True)):
        wrong += [("mark", 0, bad), ("cell", row, row, bad), ("weight", 0, 1, bad), ("weight", 1, 0, bad)]
    if many == 1:
        wrong += [("weight", 0, 1, ONE), ("strike", 0), ("order", (True,)), ("order", (False,))]
    else:
        wrong += [("turn", (1, 0)), ("turn", (last, 0)), ("turn", (0, True)), ("order", (0,) * many),
                  ("order", tuple(range(many - 1)) + (0,)), ("order", (0, True) + tuple(range(2, many)))]
    if many == 8:
        wrong += [("cell", row, row, HALF), ("cell", row + (ONE,), row + (ONE,), HALF)]
    return wrong + list(STRANGE) + [deep(40)]


def random_album(rng, most=8):
    shape = rng.choice([told for told in SHAPES if told[0] * told[1] <= most])
    many = shape[0] * shape[1]
    names = sorted(rng.sample(NAMES, rng.choice([0, 1, 2, 3, 8])))
    return (shape, random_net(rng, many), tuple((name, rng.choice(states_of(many))) for name in names))


def shapes_of(many):
    return [shape for shape in SHAPES if shape[0] * shape[1] == many]


def random_change(rng, album):
    """A change that fits."""
    (_, net, pictures), many = album, len(album[1][1])
    names = [name for name, _ in pictures]
    pick = rng.random()
    if pick < 0.2 and len(names) < 8:
        return ("keep", rng.choice(NAMES), rng.choice(states_of(many)))
    if pick < 0.2:
        return ("keep", rng.choice(names), rng.choice(states_of(many)))
    if pick < 0.3 and names:
        return ("drop", rng.choice(names))
    if pick < 0.4 and many > 1 and names and len({state for _, state in pictures}) == len(names):
        return ("made",)
    deed = random_deed(rng, net)
    if deed[0] == "cell":
        return deed + (rng.choice(shapes_of(many + 1)),)
    if deed[0] == "strike":
        return deed + (rng.choice(shapes_of(many - 1)),)
    return deed


def album_by_all(album, change):
    """The album behind a change, by the words."""
    shape, net, pictures = album
    kept = dict(pictures)
    if change[0] == "keep":
        kept[change[1]] = change[2]
        return (shape, net, tuple((name, kept[name]) for name in sorted(kept)))
    if change[0] == "drop":
        del kept[change[1]]
        return (shape, net, tuple((name, kept[name]) for name in sorted(kept)))
    if change[0] == "made":
        return (shape, net_of_by_all(sorted(kept.values(), key=number_by_all)), pictures)
    if change[0] in ("cell", "strike"):
        shape, change = change[-1], change[:-1]
    return (shape, behind_by_all(net, change), tuple((name, led_by_all(change, state)) for name, state in pictures))


def work_by_all(album, change):
    """The work of a change, by the words."""
    net = album_by_all(album, change)[1]
    if change[0] in ("keep", "drop"):
        return ()
    deed = change[:-1] if change[0] in ("cell", "strike") else change
    left = () if change[0] == "made" else leaves_by_all(album[1], deed)
    return tuple(at for at in range(2 ** len(net[1])) if at not in left)


def wrong_changes(album):
    """Values that are no changes of an album."""
    (_, net, pictures), many = album, len(album[1][1])
    names = [name for name, _ in pictures]
    dark, row = (0,) * many, (ONE,) * many
    wrong = [value for value in wrong_deeds(many) if not isinstance(value, tuple) or not value
             or not isinstance(value[0], str) or value[0] not in ("cell", "strike", "keep", "drop", "made")]
    wrong += [("cell", row, row, HALF), ("cell", row, row, HALF, (1, many)), ("cell", row, row, HALF, (many, 1)),
              ("cell", row, row, HALF, [1, many + 1]), ("cell", row, row, HALF, (1, many + 1, 1)),
              ("cell", row, row, HALF, None), ("cell", row, row, HALF, many + 1),
              ("cell", row, row, HALF, (-1, -many - 1)),
              ("cell", row, row, HALF, (True, many + 1)), ("cell", row, row, HALF, (1, many + 1), ()),
              ("cell", row + (ONE,), row, HALF, (1, many + 1)), ("cell", row, row, 1, (1, many + 1)),
              ("cell", (1, many + 1), row, row, HALF), ("cell",), ("cell", (1, many + 1)), ("strike",),
              ("strike", 0), ("strike", 0, (1, many)), ("strike", 0, None), ("strike", 0, [1, many - 1]),
              ("strike", many, (1, many - 1)), ("strike", -1, (1, many - 1)), ("strike", True, (1, many - 1)),
              ("strike", 0, (1, many - 1), ()), ("strike", (1, many - 1), 0), ("strike", 0, (1, -1)),
              ("strike", 0, (0, 0)), ("strike", 0, (Touchy(), 1)), ("strike", 0, (Alike(), Alike())),
              ("cell", row, row, HALF, (0, 0)), ("cell", row, row, HALF, Touchy()),
              ("keep",), ("keep", "a"), ("keep", dark), ("keep", "a", dark, dark), ("keep", dark, "a"),
              ("drop",), ("drop", "nobody"), ("drop", None), ("drop", ("a",)), ("drop", "a", "b"), ("drop", 0),
              ("drop", Alike()), ("drop", Touchy()), ("drop", ["a"]), ("drop", b"a"), ("drop", names),
              ("made", ()), ("made", None), ("made", pictures), ("undo",), ("made", ("made",))]
    wrong += [("keep", "a", state) for state in wrong_states(many)]
    wrong += [("keep", name, dark) for name in ("", "A", "abcdefghi", "board", "cell", "picture", "a1", "a b", " ", 1,
                                                None, ("a",), b"a", ["a"], Alike(), Touchy())]
    if len(names) == 8:
        wrong.append(("keep", "nobody", dark))
    if many == 1 or not names or len({state for _, state in pictures}) < len(names):
        wrong.append(("made",))
    if many == 8:
        wrong.append(("cell", row, row, HALF, (3, 3)))
    if many == 1:
        wrong += [("strike", 0, (1, 0)), ("strike", 0, (0, 1))]
    return wrong


class BookByAll:
    """A book that keeps all albums that there were, and reckons each thing from nothing."""

    def __init__(self, album):
        self.album, self.earlier, self.later = album, [], []

    def change(self, change):
        self.earlier.append(self.album)
        self.later = []
        self.album = album_by_all(self.album, change)
        del self.earlier[:-20]

    def undo(self):
        if not self.earlier:
            return False
        self.later.insert(0, self.album)
        self.album = self.earlier.pop()
        return True

    def redo(self):
        if not self.later:
            return False
        self.earlier.append(self.album)
        self.album = self.later.pop(0)
        return True

    def told(self):
        """The book as a triple."""
        return ((self.album, nexts_by_all(self.album[1])),
                tuple((album, nexts_by_all(album[1])) for album in self.earlier),
                tuple((album, nexts_by_all(album[1])) for album in self.later))


NUMBER = "(?:0|[1-9][0-9]{0,5})"
FRACTION = f"-?{NUMBER}(?:/[1-9][0-9]{{0,5}})?"
FORMS = [re.compile(form) for form in (
    "album( [^ ]+)+", f"weight {NUMBER} {NUMBER} {FRACTION}", f"mark {NUMBER} {FRACTION}", f"order( {NUMBER})+",
    f"turn( {NUMBER})*", f"strike {NUMBER} {NUMBER} {NUMBER}", f"cell {NUMBER} {NUMBER}( {FRACTION})+", "keep [^ ]+",
    "drop [^ ]+", "take [^ ]+", "made|undo|redo|step|rest|wants|board|rests|scales|falls|show", "state [#.]+",
    f"move {NUMBER}")]


def is_understood(line):
    return "\n" not in line and any(form.fullmatch(line) for form in FORMS)


def told_fraction(word):
    return pair(Fraction(word))
