"""Point [33]."""
import copy
import random
import unittest
from fractions import Fraction

from heednets.albums import album_text, read_album
from heednets.books import changed
from heednets.console import fresh_console, said, told_all
from heednets.errors import InvalidLines, InvalidText
from tests.helper import (CHASE, HALF, LAME, NIL, ONE, PALS, SHY, STRANGE, TWO, WHEEL, Alike, Touchy, assert_refused,
                          assert_signature, deep, on_a_round, quiet, rests_by_all, scales_of, states_of, wants)
from tests.second import (NAMES, SHAPES, BookByAll, is_understood, led_by_all, nexts_by_all, random_album,
                          told_fraction,
                          work_by_all)
from tests.test_books import EIGHT, LEFT
from tests.test_films import rows_by_all


def line_of(album):
    """The line that tells an album."""
    return "album " + " ; ".join(album_text(album).split("\n")[:-1])


def signs(state):
    return "".join(".#"[on] for on in state)


def unsigned(word):
    return tuple(".#".index(sign) for sign in word)


class ConsoleByAll:
    """A console by the words, each answer from nothing of the albums that there were."""

    def __init__(self):
        self.book, self.state = None, ()

    def told(self):
        return (self.book.told() if self.book else None, self.state)

    def said(self, line):
        if not is_understood(line):
            return "not understood"
        word, *words = line.split(" ")
        if word == "album":
            return self.said_album(line[len("album "):])
        if self.book is None:
            return "no album"
        if word in ("keep", "move", "step", "rest", "wants", "board") and self.state == ():
            return "no state"
        if word in ("weight", "mark", "order", "turn", "strike", "cell", "keep", "drop", "made"):
            return self.said_change(word, words)
        return getattr(self, "said_" + word)(*words)

    def said_album(self, text):
        try:
            album = read_album(text.replace(" ; ", "\n") + "\n")
        except InvalidText as error:
            return f"wrong at {error.line}"
        self.book, self.state = BookByAll(album), ()
        return "{} cells, {} pictures".format(len(album[1][1]), len(album[2]))

    def change_told(self, word, words):
        """The change that words tell, if it fits; None."""
        many, pictures = len(self.book.album[1][1]), dict(self.book.album[2])
        if word == "keep":
            fits = words[0].isalpha() and words[0].islower() and words[0].isascii() and len(words[0]) < 9
            fits = fits and words[0] not in ("board", "cell", "picture") and (words[0] in pictures or len(pictures) < 8)
            return ("keep", words[0], self.state) if fits else None
        if word == "drop":
            return ("drop", words[0]) if words[0] in pictures else None
        if word == "made":
            return ("made",) if many > 1 and pictures and len(set(pictures.values())) == len(pictures) else None
        if word == "weight":
            i, j = map(int, words[:2])
            return ("weight", i, j, told_fraction(words[2])) if max(i, j) < many and i != j else None
        if word == "mark":
            return ("mark", int(words[0]), told_fraction(words[1])) if int(words[0]) < many else None
        return self.change_of_cells(word, words, many)

    def change_of_cells(self, word, words, many):
        if word == "strike":
            i, rows, columns = map(int, words)
            return ("strike", i, (rows, columns)) if i < many and many > 1 and rows * columns == many - 1 else None
        if word == "cell":
            rows, columns, parts = int(words[0]), int(words[1]), tuple(map(told_fraction, words[2:]))
            if many == 8 or rows * columns != many + 1 or len(parts) != 2 * many + 1:
                return None
            return ("cell", parts[:many], parts[many:2 * many], parts[2 * many], (rows, columns))
        cells = tuple(map(int, words))
        if word == "order":
            return ("order", cells) if sorted(cells) == list(range(many)) else None
        return ("turn", cells) if list(cells) == sorted(set(cells)) and all(cell < many for cell in cells) else None

    def said_change(self, word, words):
        change = self.change_told(word, words)
        if change is None:
            return "does not fit"
        work = work_by_all(self.book.album, change)
        self.book.change(change)
        if self.state != () and word not in ("keep", "drop", "made"):
            self.state = led_by_all(change[:-1] if word in ("cell", "strike") else change, self.state)
        return f"anew: {len(work)}"

    def said_undo(self):
        if not self.book.undo():
            return "nothing there"
        self.state = ()
        return "done"

    def said_redo(self):
        if not self.book.redo():
            return "nothing there"
        self.state = ()
        return "done"

    def said_state(self, word):
        if len(word) != len(self.book.album[1][1]):
            return "no state"
        self.state = unsigned(word)
        return "at hand"

    def said_take(self, name):
        if name not in dict(self.book.album[2]):
            return "no such picture"
        self.state = dict(self.book.album[2])[name]
        return "at hand"

    def moved(self, cell):
        return self.state[:cell] + (1 - self.state[cell],) + self.state[cell + 1:]

    def said_move(self, word):
        cell = int(word)
        if cell >= len(self.state):
            return "no such cell"
        if wants(self.book.album[1], self.state)[cell] == self.state[cell]:
            return "no mover"
        self.state = self.moved(cell)
        return signs(self.state)

    def said_step(self):
        self.state = wants(self.book.album[1], self.state)
        return signs(self.state)

    def said_rest(self):
        began, met = self.state, []
        while wants(self.book.album[1], self.state) != self.state:
            if self.state in met:
                self.state = began
                return "round"
            met.append(self.state)
            wish = wants(self.book.album[1], self.state)
            self.state = self.moved([cell for cell, on in enumerate(self.state) if on != wish[cell]][0])
        return f"{len(met)} moves: {signs(self.state)}"

    def said_wants(self):
        return signs(wants(self.book.album[1], self.state))

    def said_board(self):
        return "\n".join(rows_by_all(self.book.album[0], (self.state,)))

    def said_rests(self):
        return "\n".join(map(signs, rests_by_all(self.book.album[1]))) or "none"

    def said_scales(self):
        scales = scales_of(self.book.album[1])
        return " ".join(map(str, scales)) if scales else "no scales"

    def said_falls(self):
        net = self.book.album[1]
        return "goes round" if any(on_a_round(net, state) for state in states_of(len(net[1]))) else "always ends"

    def said_show(self):
        return album_text(self.book.album)[:-1]


def any_word(rng):
    return rng.choice(["0", "1", "2", "3", "7", "8", "00", "01", "123456", "1000000", "-1", "-0", "1/2", "2/4", "1/0",
                       "-3/2",
                       "0/3", "--1", "1/-2", "/2", "1/", "-", "a", "left", "board", "#.", ".", "##x", "", "+1", "1.5",
                       "1/02", "-0/7", "\u0661", "999999", "999999/999999"])


def fraction_word(rng):
    return rng.choice(["0", "1", "-1", "1/2", "-1/2", "2/4", "3", "-3/2", "0/5", "-0", "7/3"])


def likely_line(rng, console):
    """A line that is likely to be understood, and to fit."""
    many = len(console.book.album[1][1]) if console.book else 3
    cell = rng.randrange(many)
    word = rng.choice(["weight", "mark", "order", "turn", "strike", "cell", "keep", "drop", "made", "undo", "redo",
                       "state", "take", "move", "step", "rest", "wants", "board", "rests", "scales", "falls", "show"])
    if word == "weight":
        return f"weight {cell} {rng.randrange(many)} {fraction_word(rng)}"
    if word == "mark":
        return f"mark {cell} {fraction_word(rng)}"
    if word == "order":
        return " ".join(["order"] + list(map(str, rng.sample(range(many), many))))
    if word == "turn":
        return " ".join(["turn"] + list(map(str, sorted(rng.sample(range(many), rng.randint(0, many))))))
    if word in ("strike", "cell"):
        shapes = [told for told in SHAPES if told[0] * told[1] == many + (1 if word == "cell" else -1)] or [(3, 3)]
        rows, columns = rng.choice(shapes)
        if word == "strike":
            return f"strike {cell} {rows} {columns}"
        return " ".join([f"cell {rows} {columns}"] + [fraction_word(rng) for _ in range(2 * many + 1)])
    if word in ("keep", "drop", "take"):
        known = [name for name, _ in console.book.album[2]] if console.book else []
        return word + " " + rng.choice(list(NAMES) + known * 3)
    if word == "state":
        return "state " + "".join(rng.choice(".#") for _ in range(many))
    return f"move {cell}" if word == "move" else word


def spoilt(rng, line):
    """The line with a word left out, doubled, changed or one more, or with a blank or a line end too many."""
    words = line.split(" ")
    at = rng.randrange(len(words))
    return rng.choice([
        " ".join(words[:at] + words[at + 1:]), " ".join(words[:at + 1] + words[at:]),
        " ".join(words[:at] + [any_word(rng)] + words[at + 1:]), " ".join(words + [any_word(rng)]), " " + line,
        line + " ",
        line.replace(" ", "  ", 1), line + "\n", "\n" + line, line.replace(" ", "\n", 1), line.upper(), line + "\t"])


class Second(unittest.TestCase):
    def check(self, console, second, line):
        ahead = copy.deepcopy(console)
        found, answer = said(console, line)
        self.assertEqual(console, ahead)
        self.assertEqual(answer, second.said(line), line)
        self.assertEqual(repr(found), repr(second.told()), line)
        return found, answer

    def test_rows_of_lines_by_the_words(self):
        rng = random.Random(160)
        answers, lines = set(), {}
        for _ in range(30):
            console, second = fresh_console(), ConsoleByAll()
            for _ in range(45):
                line = line_of(random_album(rng, 4)) if rng.random() < 0.1 else likely_line(rng, second)
                if rng.random() > 0.8:
                    line = spoilt(rng, line)
                console, answer = self.check(console, second, line)
                answers.add(answer.split(" ")[0] if "\n" not in answer else "rows")
                lines.setdefault(line.split(" ")[0], set()).add(answer)
        for word in ("no", "not", "wrong", "does", "anew:", "done", "nothing", "at", "round", "none", "always", "goes",
                     "rows", "0", "1", "2"):
            self.assertIn(word, answers)
        for word in ("rests", "scales", "falls", "show", "move", "rest", "step", "wants", "made", "keep", "cell"):
            self.assertLess(2, len(lines[word]), word)

    def test_eight_cells(self):
        rng = random.Random(161)
        console, second = fresh_console(), ConsoleByAll()
        album = ((2, 4), quiet(8), (("a", (1, 0) * 4), ("b", (1,) * 8)))
        lines = [line_of(album), "made", "take a", "rest", "turn 0 7", "board", "rests", "falls", "scales",
                 "strike 7 7 1",
                 "board", "rests", "show", "cell 1 8" + " 1" * 15, "step", "wants", "cell 3 3" + " 1" * 17, "undo",
                 "rests"]
        for line in lines + [likely_line(rng, second) for _ in range(5)]:
            console, _ = self.check(console, second, line)

    def test_told_all_is_line_by_line(self):
        rng = random.Random(162)
        for many in (0, 1, 17, 59, 60):
            second, lines = ConsoleByAll(), []
            for _ in range(many):
                line = likely_line(rng, second) if lines else line_of(LEFT)
                lines.append(line)
                second.said(line)
            console, answers = fresh_console(), []
            for line in lines:
                console, answer = said(console, line)
                answers.append(answer)
            self.assertEqual(told_all(fresh_console(), tuple(lines)), (console, tuple(answers)))
            self.assertEqual(told_all(console=fresh_console(), lines=tuple(lines)), (console, tuple(answers)))


class Lines(unittest.TestCase):
    def told(self, *lines):
        """The last console, and its answers."""
        return told_all(fresh_console(), lines)

    def last(self, *lines):
        return self.told(line_of(LEFT), *lines)[1][-1]

    def test_fresh(self):
        self.assertEqual(repr(fresh_console()), "(None, ())")
        self.assertEqual(said(console=fresh_console(), line="fly"), ((None, ()), "not understood"))

    def test_each_line_without_a_book(self):
        for line in ("weight 0 1 1", "mark 0 1", "order 0", "turn", "turn 0", "strike 0 1 1", "cell 1 1 0", "keep a",
                     "drop a", "made", "undo", "redo", "state #", "take a", "move 0", "step", "rest", "wants", "board",
                     "rests", "scales", "falls", "show", "keep board", "take 1", "mark 999999 1/999999"):
            self.assertEqual(said(fresh_console(), line), (fresh_console(), "no album"), line)
        for line in ("", " ", "rests ", "mark 0", "state", "fly", "album", "Show", "keep", "turn a", "mark 0 1/0",
                     "move"):
            self.assertEqual(said(fresh_console(), line), (fresh_console(), "not understood"), line)

    def test_each_line_without_a_state_at_hand(self):
        console = said(fresh_console(), line_of(LEFT))[0]
        for line in ("keep a", "keep board", "keep 1", "move 0", "move 999999", "step", "rest", "wants", "board"):
            self.assertEqual(said(console, line), (console, "no state"), line)

    def test_each_form(self):
        forms = {"weight 0 1 1": "anew: 0", "mark 0 1": "anew: 2", "order 1 0": "anew: 0", "turn": "anew: 0",
                 "turn 0": "anew: 0", "turn 0 1": "anew: 0", "strike 0 1 1": "anew: 0",
                 "cell 3 1 0 0 0 0 0": "anew: 8", "keep a": "anew: 0", "drop left": "anew: 0", "made": "anew: 4",
                 "undo": "done", "state ##": "at hand", "take left": "at hand", "move 0": "..", "step": ".#",
                 "rest": "1 moves: ..", "wants": ".#", "board": "#.", "rests": "..\n##", "scales": "1 1",
                 "falls": "always ends", "show": album_text(LEFT)[:-1], "redo": "nothing there"}
        console = self.told(line_of(LEFT), "mark 0 1/2", "take left")[0]
        for line, due in forms.items():
            self.assertEqual(said(console, line)[1], due, line)
            words = line.split(" ")
            for at in range(len(words)):
                for wrong in (words[:at] + words[at + 1:], words[:at + 1] + words[at:], words[:at] + [""] + words[at:]):
                    told = " ".join(wrong)
                    self.assertEqual(said(console, told)[1] == "not understood", not is_understood(told), told)
            for wrong in (line + " ", " " + line, line + "\n", line + " x", line + " 1", "x " + line, line + "\r",
                          line.title(), "\n" + line, line.replace(" ", "\t")):
                if not is_understood(wrong):
                    self.assertEqual(said(console, wrong), (console, "not understood"), wrong)

    def test_numbers(self):
        for word, due in (("0", "anew: 2"), ("1", "anew: 2"), ("2", "does not fit"), ("999999", "does not fit")):
            self.assertEqual(self.last(f"mark {word} 2/3"), due)
        for word in ("1000000", "0000000", "00", "01", "000001", "-1", "-0", "+0", "0.0", "1_0", "a", "\u0660", "1/1",
                     "#",
                     "\u00b2", "0x0", "0\t", "\u0661"):
            for line in (f"mark {word} 1", f"weight {word} 0 1", f"weight 0 {word} 1", f"order {word} 0",
                         f"turn {word}",
                         f"strike {word} 1 1", f"strike 0 {word} 1", f"strike 0 1 {word}", f"cell {word} 1 0 0 0 0 0",
                         f"cell 1 {word} 0 0 0 0 0", f"move {word}", f"order 0 {word}", f"turn 0 {word}"):
                self.assertEqual(self.last("take left", line), "not understood", line)

    def test_fractions_in_any_terms(self):
        for word, due in (("2/4", "1/2"), ("-2/4", "-1/2"), ("0/7", "0"), ("-0", "0"), ("-0/3", "0"), ("6/3", "2"),
                          ("999999/999998", "999999/999998"), ("-999999", "-999999"), ("3/3", "1"), ("0", "0"),
                          ("1/999999", "1/999999"), ("5", "5")):
            self.assertEqual(self.last(f"mark 1 {word}", "show").split("\n")[2], f"cell 1 0 {due}")
            self.assertEqual(self.last(f"weight 1 0 {word}", "show").split("\n")[2], f"cell {due} 0 1/2")
            self.assertEqual(self.last(f"cell 3 1 0 0 0 0 {word}", "show").split("\n")[3], f"cell 0 0 0 {due}")
        for word in ("1/0", "0/0", "-1/0", "--1", "1/-1", "-1/-2", "1//2", "1/2/3", "/", "1/", "/1", "-", "-/1", "01",
                     "1/01", "01/2", "00", "-00", "1000000", "1/1000000", "1000000/2", "1.5", "1e3", "+1", "a", "1/a",
                     "\u0661", "1/\u00b2", "0/00", "- 1", "1 /2"):
            for line in (f"mark 0 {word}", f"weight 0 1 {word}", f"cell 3 1 0 0 0 0 {word}",
                         f"cell 3 1 {word} 0 0 0 0"):
                self.assertEqual(self.last(line), "not understood", line)

    def test_what_does_not_fit_leaves_all_as_it_is(self):
        console = self.told(line_of(LEFT), "mark 0 1", "mark 0 2", "undo", "take left")[0]
        for line in ("weight 0 0 1", "weight 0 2 1", "weight 2 0 1", "mark 2 0", "order 0", "order 0 0", "order 0 1 0",
                     "order 1 2", "turn 1 0", "turn 2", "turn 0 0", "strike 2 1 1", "strike 0 1 2", "strike 0 0 0",
                     "cell 3 1 0", "cell 3 1 0 0 0 0", "cell 3 1 0 0 0 0 0 0", "cell 2 2 0 0 0 0 0",
                     "cell 0 0 0 0 0 0 0", "keep board", "keep A", "keep abcdefghi", "keep 1", "keep #.", "drop a",
                     "drop 1",
                     "drop board", "cell 999999 1 0 0 0 0 0"):
            self.assertEqual(said(console, line), (console, "does not fit"), line)
        for line, due in (("state #", "no state"), ("state ###", "no state"), ("take a", "no such picture"),
                          ("take Left", "no such picture"), ("move 2", "no such cell"), ("album x", "wrong at 0"),
                          ("state #a", "not understood"), ("state", "not understood"), ("move -1", "not understood"),
                          ("wants", ".#"), ("board", "#."), ("scales", "1 1"), ("album board 1 1", "wrong at 1")):
            self.assertEqual(said(console, line), (console, due), line)
        rest = said(console, "state ..")[0]
        self.assertEqual(said(rest, "move 1"), (rest, "no mover"))
        self.assertEqual(said(rest, "rest"), (rest, "0 moves: .."))
        nothing = self.told(line_of(((1, 2), PALS, ())), "state ##")[0]
        for line, due in (("made", "does not fit"), ("undo", "nothing there"), ("redo", "nothing there")):
            self.assertEqual(said(nothing, line), (nothing, due))

    def test_albums(self):
        for line, due in (("album board 1 1 ; cell 0 1/2", "1 cells, 0 pictures"),
                          (line_of(EIGHT), "4 cells, 8 pictures"),
                          ("album ;", "wrong at 0"), ("album board", "wrong at 0"), ("album board 1 1", "wrong at 1"),
                          ("album board 1 1 ;", "wrong at 0"), ("album board 1 1 ; cell 0 1/2 ;", "wrong at 1"),
                          ("album board 1 1 ; ; cell 0 1/2", "wrong at 1"),
                          ("album ; board 1 1 ; cell 0 1/2", "wrong at 0"),
                          ("album board 1 1; cell 0 1/2", "wrong at 0"), ("album board 1 1 ;cell 0 1/2", "wrong at 0"),
                          ("album board 1 1 ; cell 0 2/4", "wrong at 1"),
                          ("album board 1 1 ; cell 0 0 ; picture a", "wrong at 3"),
                          ("album board 1 1 ; cell 0 0 ; picture a ; #", "1 cells, 1 pictures"),
                          ("album board 1 1 ; cell 0 0 ; picture a ; # ; fly", "wrong at 4"),
                          ("album board 1 1 ; cell 0 0 ; picture ;a ; #", "wrong at 2"), ("album", "not understood"),
                          ("album ", "not understood"), ("album  board 1 1 ; cell 0 0", "not understood"),
                          ("album board 1 1  ; cell 0 0", "not understood"),
                          ("album board 1 1 ; cell 0 0 ", "not understood"),
                          (" album board 1 1 ; cell 0 0", "not understood"),
                          ("album board 1 1 ;  cell 0 0", "not understood"),
                          ("album board 1 1\ncell 0 0", "not understood"),
                          ("album board 1 1 ; cell 0 0\n", "not understood"),
                          ("album board 1 1 ; cell 0 1000000", "1 cells, 0 pictures"),
                          ("album a\tb ; \r", "wrong at 0"),
                          ("album board 1 1 ; cell 0 0 ; ;", "wrong at 2")):
            console, answer = said(fresh_console(), line)
            self.assertEqual(answer, due, line)
            if "cells" not in due:
                self.assertEqual(console, fresh_console())
        console, _ = self.told(line_of(LEFT), "take left", "mark 0 1", line_of(EIGHT))
        self.assertEqual(console, (((EIGHT, nexts_by_all(EIGHT[1])), (), ()), ()))

    def test_changes_lead_the_state_at_hand_along(self):
        ahead = (line_of(((1, 3), WHEEL, ())), "state #..")
        for line, due in (("order 2 0 1", ".#."), ("turn 0 2", "..#"), ("turn", "#.."), ("strike 0 1 2", ".."),
                          ("strike 2 1 2", "#."), ("cell 2 2 0 0 0 0 0 0 0", "#.\n.."),
                          ("weight 0 1 1", "#.."), ("mark 2 9", "#.."), ("keep a", "#..")):
            self.assertEqual(self.told(*ahead, line, "board")[1][-1], due)
        self.assertEqual(self.told(*ahead, "keep a", "drop a", "keep b", "made", "board")[1][2:],
                         ("anew: 0", "anew: 0", "anew: 0", "anew: 8", "#.."))

    def test_behind_undo_and_redo_no_state_is_at_hand(self):
        lines = (line_of(LEFT), "take left", "mark 0 2", "undo", "wants", "take left", "redo", "wants", "take left",
                 "redo",
                 "wants", "undo", "undo", "state ##", "undo", "wants")
        self.assertEqual(self.told(*lines)[1], ("2 cells, 1 pictures", "at hand", "anew: 2", "done", "no state",
                                                "at hand",
                                                "done", "no state", "at hand", "nothing there", ".#", "done",
                                                "nothing there", "at hand", "nothing there", "##"))

    def test_twenty_changes_can_be_undone(self):
        lines = (line_of(LEFT),) + tuple(f"mark 0 {at}" for at in range(21)) + ("undo",) * 21 + ("show",)
        answers = self.told(*lines)[1]
        self.assertEqual(answers[22:43], ("done",) * 20 + ("nothing there",))
        self.assertEqual(answers[-1].split("\n")[1], "cell 0 1 0")

    def test_rest_where_a_state_would_come_again(self):
        console = self.told(line_of(((1, 2), CHASE, ())), "state #.")[0]
        self.assertEqual(said(console, "rest"), (console, "round"))
        self.assertEqual([said(console, "falls")[1], said(console, "rests")[1], said(console, "scales")[1]],
                         ["goes round", "none", "no scales"])
        # From here the round is come to, but the state is on none.
        ahead = self.told("album board 1 3 ; cell 0 1 0 1/2 ; cell -1 0 0 -1/2 ; cell 0 0 0 1/2", "state ..#")[0]
        self.assertEqual(said(ahead, "rest"), (ahead, "round"))
        # The least mover goes first, though another row of moves would go round.
        self.assertEqual(self.told("album board 1 2 ; cell 0 1 1/2 ; cell 1 0 1/2", "state .#", "rest")[1][-1],
                         "1 moves: ##")

    def test_scales(self):
        self.assertEqual(self.told(line_of(((1, 2), LAME, ())), "scales")[1][-1], "1 2")
        self.assertEqual(self.told("album board 1 2 ; cell 0 1/3 0 ; cell 1/2 0 0", "scales")[1][-1], "1 2/3")
        self.assertEqual(self.told(line_of(((1, 1), SHY, ())), "scales", "rests", "falls")[1][1:],
                         ("1", ".", "always ends"))

    def test_words_that_are_no_names(self):
        for word in ("1", "board", "A", "abcdefghi", "#.", ";", "\t", "\u00e9"):
            self.assertEqual(self.last("take left", f"keep {word}"), "does not fit")
            self.assertEqual(self.last(f"keep {word}"), "no state")
            self.assertEqual(self.last(f"drop {word}"), "does not fit")
            self.assertEqual(self.last(f"take {word}"), "no such picture")

    def test_show_reads_back(self):
        rng = random.Random(163)
        for _ in range(20):
            album = random_album(rng)
            console, answer = said(said(fresh_console(), line_of(album))[0], "show")
            self.assertEqual(answer + "\n", album_text(album))
            self.assertEqual(said(console, "album " + answer.replace("\n", " ; "))[0][0][0][0], album)

    def test_answers_from_nothing(self):
        rng = random.Random(164)
        for _ in range(10):
            second = ConsoleByAll()
            lines = [line_of(random_album(rng, 4))]
            second.said(lines[0])
            for _ in range(15):
                lines.append(likely_line(rng, second))
                second.said(lines[-1])
            console = self.told(*lines)[0]
            fresh = said(fresh_console(), line_of(console[0][0][0]))[0]
            for line in ("rests", "scales", "falls", "show", "made", "mark 0 1/3", "turn 0"):
                self.assertEqual(said(console, line)[1], said(fresh, line)[1])
            for state in states_of(len(console[0][0][0][1][1])):
                for line in ("wants", "step", "rest", "board", "move 0"):
                    self.assertEqual(self.both(console, state, line), self.both(fresh, state, line))

    def both(self, console, state, line):
        return said(said(console, "state " + signs(state))[0], line)[1]


class Wrong(unittest.TestCase):
    def test_what_is_no_text(self):
        console = said(fresh_console(), line_of(LEFT))[0]
        for value in STRANGE + (b"rests", ["rests"], ("rests",), 0, Alike(), Touchy(), deep(60)):
            for told in (fresh_console(), console):
                if not isinstance(value, str):
                    assert_refused(self, InvalidLines, "index", None, said, (told, value))
                    assert_refused(self, InvalidLines, "index", 1, told_all, (told, ("rests", value, None)))
                    assert_refused(self, InvalidLines, "index", 0, told_all, (told, (value,)))
                else:
                    self.assertEqual(said(told, value)[1], "no album" if value == "rest" and told[0] is None
                                     else "no state" if value == "rest" else "not understood")

    def test_no_lines_sixty_and_sixty_one(self):
        for console in (fresh_console(), said(fresh_console(), line_of(LEFT))[0]):
            self.assertEqual(told_all(console, ()), (console, ()))
            self.assertEqual(told_all(console, ("fly",) * 60), (console, ("not understood",) * 60))
            for value in (("fly",) * 61, (None,) * 61, ["fly"], "fly", None, {"fly": 1}, {"fly"}, 1, Alike(), Touchy(),
                          b"fly"):
                assert_refused(self, InvalidLines, "index", None, told_all, (console, value))
            for value in STRANGE:
                if not isinstance(value, tuple):
                    assert_refused(self, InvalidLines, "index", None, told_all, (console, value))
        assert_refused(self, InvalidLines, "index", 59, told_all, (fresh_console(), ("fly",) * 59 + (None,)))

    def test_parameters_have_the_names_of_the_document(self):
        for call, names in ((fresh_console, ""), (said, "console line"), (told_all, "console lines")):
            assert_signature(self, call, names)


class Deeds(unittest.TestCase):
    def test_lines_make_the_changes_that_they_tell(self):
        console = told_all(fresh_console(), (line_of(LEFT), "state ##"))[0]
        for line, change in (("weight 0 1 2/6", ("weight", 0, 1, (1, 3))), ("mark 1 -4/2", ("mark", 1, (-2, 1))),
                             ("order 1 0", ("order", (1, 0))), ("turn 0 1", ("turn", (0, 1))), ("turn", ("turn", ())),
                             ("strike 1 1 1", ("strike", 1, (1, 1))), ("keep a", ("keep", "a", (1, 1))),
                             ("cell 3 1 1 2 0 -1 1/2", ("cell", (ONE, TWO), (NIL, (-1, 1)), HALF, (3, 1))),
                             ("drop left", ("drop", "left")), ("made", ("made",))):
            self.assertEqual(said(console, line)[0][0], changed(console[0], change), line)

    def test_fractions_are_told_in_least_terms(self):
        for word in ("2/6", "-4/2", "0/9", "-0/9", "123456/654321"):
            self.assertEqual(told_fraction(word), (Fraction(word).numerator, Fraction(word).denominator))


if __name__ == "__main__":
    unittest.main()
