"""Point [30]."""
import copy
import random
import unittest

from heednets.albums import is_album
from heednets.books import again, album_in, changed, fresh_book, nexts_in, undone, work_of
from heednets.errors import InvalidBook, InvalidDeed, NothingToRedo, NothingToUndo
from tests.helper import (BOLD, HALF, LESS, NIL, ONE, PALS, SHY, STRANGE, TWO, WHEEL, Alike, Touchy, assert_raises,
                          assert_refused, assert_signature, net_from, quiet, states_of)
from tests.second import (BookByAll, album_by_all, led_by_all, net_of_by_all, nexts_by_all, random_album,
                          random_change, work_by_all, wrong_changes)

LEFT = ((1, 2), PALS, (("left", (1, 0)),))
EIGHT = ((2, 2), net_from([[0, 1, 0, 2], [1, 0, 3, 0], [0, 3, 0, 1], [2, 0, 1, 0]], [1, 2, "1/2", 0]),
         tuple((name, states_of(4)[at]) for at, name in enumerate("abcdefgh")))


def walk(rng, album, steps):
    """Pairs of an album and a change that fits, one behind the other."""
    for _ in range(steps):
        change = random_change(rng, album)
        yield album, change
        album = album_by_all(album, change)


class Fresh(unittest.TestCase):
    def test_fresh_books(self):
        rng = random.Random(140)
        for album in [LEFT, EIGHT, ((1, 1), SHY, ()), ((8, 1), quiet(8), ())] + [random_album(rng) for _ in range(20)]:
            book = fresh_book(album)
            self.assertEqual(repr(book), repr(((album, nexts_by_all(album[1])), (), ())))
            self.assertEqual(fresh_book(album=album), book)
            self.assertEqual([album_in(book), nexts_in(book)], [album, nexts_by_all(album[1])])
            self.assertEqual([album_in(book=book), nexts_in(book=book)], [album, nexts_by_all(album[1])])

    def test_wrong_albums(self):
        for value, index in ((LEFT[:2], None), (list(LEFT), None), (((2, 2), PALS, ()), 1), (((1, 2), PALS, []), 2),
                             (((1, 2), WHEEL, ()), 1), (((0, 2), PALS, ()), 0), (([1, 2], PALS, ()), 0),
                             (((1, 2), PALS, (("left", (1, 0, 0)),)), 2), (((1, 2), None, None), 1),
                             (((1, 9), PALS, ()), 0), (Alike(), None), ((Touchy(), PALS, ()), 0)):
            assert_refused(self, InvalidBook, "index", index, fresh_book, (value,))
        for value in STRANGE:
            assert_refused(self, InvalidBook, "index", None, fresh_book, (value,))


class Changed(unittest.TestCase):
    def test_rows_of_changes_by_the_words(self):
        rng = random.Random(141)
        words = set()
        for _ in range(25):
            first = random_album(rng, 5)
            book = fresh_book(first)
            for album, change in walk(rng, first, 12):
                due = album_by_all(album, change)
                self.assertEqual(repr(work_of(book, change)), repr(work_by_all(album, change)), (album, change))
                self.assertEqual(work_of(book=book, change=change), work_of(book, change))
                ahead, copied = book, copy.deepcopy(book)
                book = changed(book, change)
                self.assertEqual(ahead, copied)
                self.assertEqual(repr(album_in(book)), repr(due), (album, change))
                self.assertIs(is_album(due), True)
                self.assertEqual(repr(nexts_in(book)), repr(nexts_by_all(due[1])), (album, change))
                self.assertEqual(book[1:], (ahead[1] + (ahead[0],), ()))
                self.assertEqual(changed(book=ahead, change=change), book)
                words.add(change[0])
        self.assertEqual(words, {"weight", "mark", "cell", "strike", "order", "turn", "keep", "drop", "made"})

    def test_seven_and_eight_cells(self):
        rng = random.Random(142)
        for shape in ((1, 7), (2, 4)):
            album = (shape, net_from([[0 if i == j else rng.randint(-2, 2) for j in range(shape[0] * shape[1])]
                                      for i in range(shape[0] * shape[1])], [rng.randint(-2, 2)] * shape[0] * shape[1]),
                     ())
            book = fresh_book(album)
            for album, change in walk(rng, album, 10):
                self.assertEqual(work_of(book, change), work_by_all(album, change))
                book = changed(book, change)
                due = album_by_all(album, change)
                self.assertEqual([album_in(book), nexts_in(book)], [due, nexts_by_all(due[1])])

    def test_only_the_work_is_looked_at_anew(self):
        # With next states that are not so, those of all states that are left stay as wrong as they were.
        wrong = ((LEFT, ((1, 1),) * 4), (), ())
        left = {number: (1, 1) for number in range(4)}
        for change in (("mark", 1, ONE), ("weight", 0, 1, HALF), ("mark", 0, HALF)):
            work = work_of(wrong, change)
            due = nexts_by_all(album_by_all(LEFT, change)[1])
            self.assertEqual(nexts_in(changed(wrong, change)),
                             tuple(due[at] if at in work else left[at] for at in range(4)))

    def test_shapes(self):
        grown = changed(fresh_book(LEFT), ("cell", (ONE, NIL), (NIL, TWO), HALF, (3, 1)))
        self.assertEqual(album_in(grown), ((3, 1), (((NIL, ONE, NIL), (ONE, NIL, TWO), (ONE, NIL, NIL)), (HALF,) * 3),
                                           (("left", (1, 0, 0)),)))
        self.assertEqual(work_of(fresh_book(LEFT), ("cell", (ONE, NIL), (NIL, TWO), HALF, (1, 3))), tuple(range(8)))
        four = changed(grown, ("cell", (NIL,) * 3, (NIL,) * 3, NIL, (2, 2)))
        self.assertEqual(album_in(four)[0], (2, 2))
        for shape in ((1, 4), (4, 1), (2, 2)):
            self.assertEqual(album_in(changed(grown, ("cell", (NIL,) * 3, (NIL,) * 3, NIL, shape)))[0], shape)
        for shape in ((1, 3), (3, 1)):
            struck = changed(four, ("strike", 0, shape))
            self.assertEqual([album_in(struck)[0], album_in(struck)[2]], [shape, (("left", (0, 0, 0)),)])
        self.assertEqual(work_of(four, ("strike", 2, (1, 3))), ())
        self.assertEqual(album_in(changed(fresh_book(LEFT), ("order", (1, 0))))[0], (1, 2))

    def test_pictures_led_along_to_one_state(self):
        album = ((1, 2), PALS, (("a", (1, 0)), ("b", (1, 1))))
        self.assertEqual(album_in(changed(fresh_book(album), ("strike", 1, (1, 1))))[2], (("a", (1,)), ("b", (1,))))


class Kept(unittest.TestCase):
    def test_keep_under_a_new_name(self):
        book = fresh_book(LEFT)
        for name, due in (("a", (("a", (0, 1)), ("left", (1, 0)))), ("z", (("left", (1, 0)), ("z", (0, 1))))):
            change = ("keep", name, (0, 1))
            self.assertEqual(work_of(book, change), ())
            after = changed(book, change)
            self.assertEqual(album_in(after), ((1, 2), PALS, due))
            self.assertEqual([nexts_in(after), after[1]], [nexts_in(book), (book[0],)])

    def test_keep_in_the_place_of_what_had_the_name(self):
        after = changed(fresh_book(LEFT), ("keep", "left", (1, 1)))
        self.assertEqual(album_in(after)[2], (("left", (1, 1)),))

    def test_keep_with_eight_kept(self):
        book = fresh_book(EIGHT)
        for name in "abcdefgh":
            after = album_in(changed(book, ("keep", name, (1, 1, 1, 1))))
            self.assertEqual(dict(after[2]), {**dict(EIGHT[2]), name: (1, 1, 1, 1)})
        for name in ("i", "aa", "left"):
            for call in (changed, work_of):
                assert_refused(self, InvalidDeed, "given", ("keep", name, (1, 1, 1, 1)), call,
                               (book, ("keep", name, (1, 1, 1, 1))))
        seven = changed(book, ("drop", "c"))
        self.assertEqual(album_in(changed(seven, ("keep", "i", (1, 1, 1, 1))))[2][-1], ("i", (1, 1, 1, 1)))

    def test_two_names_for_one_state(self):
        after = changed(fresh_book(LEFT), ("keep", "same", (1, 0)))
        self.assertEqual(album_in(after)[2], (("left", (1, 0)), ("same", (1, 0))))

    def test_drop(self):
        book = fresh_book(EIGHT)
        for at, name in enumerate("abcdefgh"):
            after = changed(book, ("drop", name))
            self.assertEqual(album_in(after), EIGHT[:2] + (EIGHT[2][:at] + EIGHT[2][at + 1:],))
            self.assertEqual([work_of(book, ("drop", name)), nexts_in(after)], [(), nexts_in(book)])
        self.assertEqual(album_in(changed(fresh_book(LEFT), ("drop", "left")))[2], ())

    def test_made(self):
        book = fresh_book(EIGHT)
        after = changed(book, ("made",))
        net = net_of_by_all([state for _, state in EIGHT[2]])
        self.assertEqual(album_in(after), ((2, 2), net, EIGHT[2]))
        self.assertEqual([work_of(book, ("made",)), nexts_in(after)], [tuple(range(16)), nexts_by_all(net)])

    def test_made_of_pictures_whose_names_are_in_another_order_than_their_numbers(self):
        album = ((3, 1), WHEEL, (("a", (0, 1, 1)), ("b", (1, 0, 0)), ("c", (0, 0, 0))))
        after = album_in(changed(fresh_book(album), ("made",)))
        self.assertEqual(after, ((3, 1), net_of_by_all([(0, 0, 0), (1, 0, 0), (0, 1, 1)]), album[2]))

    def test_made_with_none_kept_with_two_alike_with_one_cell(self):
        for album in (((1, 2), PALS, ()), ((1, 2), PALS, (("a", (1, 0)), ("b", (1, 0)))),
                      ((1, 2), PALS, (("a", (0, 0)), ("b", (1, 0)), ("c", (0, 0)))), ((1, 1), SHY, (("a", (0,)),)),
                      ((1, 1), BOLD, (("a", (0,)), ("b", (1,)))), ((1, 1), BOLD, ())):
            for call in (changed, work_of):
                assert_refused(self, InvalidDeed, "given", ("made",), call, (fresh_book(album), ("made",)))


class Undone(unittest.TestCase):
    def test_rows_of_changes_undone_and_done_again(self):
        rng = random.Random(143)
        told = {True: 0, False: 0}
        for _ in range(12):
            album = random_album(rng, 3)
            book, second = fresh_book(album), BookByAll(album)
            for _ in range(60):
                pick = rng.random()
                if pick < 0.4:
                    change = random_change(rng, second.album)
                    book = changed(book, change)
                    second.change(change)
                else:
                    call, does, error = ((undone, second.undo, NothingToUndo) if pick < 0.72
                                         else (again, second.redo, NothingToRedo))
                    ahead = repr(book)
                    if does():
                        book = call(book)
                        told[True] += 1
                    else:
                        assert_refused(self, error, None, None, call, (book,))
                        self.assertEqual(repr(book), ahead)
                        told[False] += 1
                self.assertEqual(book, second.told())
        self.assertLess(40, min(told.values()))

    def test_twenty_one_changes_in_a_row(self):
        marks = [(at, 1) for at in range(22)]
        book = fresh_book(LEFT)
        books = [book]
        for mark in marks[1:]:
            book = changed(book, ("mark", 0, mark))
            books.append(book)
        self.assertEqual([len(told[1]) for told in books], list(range(21)) + [20])
        self.assertEqual(book[1], tuple(told[0] for told in books[1:21]))
        for at in range(20, 0, -1):
            book = undone(book)
            self.assertEqual(book[0], books[at][0])
            self.assertEqual([len(book[1]), len(book[2])], [at - 1, 21 - at])
        # The fresh book's own is gone.
        assert_refused(self, NothingToUndo, None, None, undone, (book,))
        for at in range(2, 22):
            book = again(book)
            self.assertEqual([book[0], len(book[1]), len(book[2])], [books[at][0], at - 1, 21 - at])
        self.assertEqual(book, books[21])
        assert_refused(self, NothingToRedo, None, None, again, (book,))

    def test_nothing_to_undo_or_to_do_again(self):
        book = fresh_book(LEFT)
        assert_raises(self, NothingToUndo, None, None, undone, book)
        assert_raises(self, NothingToRedo, None, None, again, book)
        one = changed(book, ("turn", ()))
        assert_raises(self, NothingToRedo, None, None, again, one)
        self.assertEqual(undone(book=one), (book[0], (), (one[0],)))
        self.assertEqual(again(book=undone(one)), one)
        assert_raises(self, NothingToUndo, None, None, undone, undone(one))

    def test_a_change_behind_something_undone(self):
        book = changed(changed(fresh_book(LEFT), ("mark", 0, ONE)), ("mark", 0, TWO))
        other = changed(undone(book), ("mark", 1, LESS))
        self.assertEqual(other[2], ())
        self.assertEqual(other[1], undone(book)[1] + (undone(book)[0],))
        assert_raises(self, NothingToRedo, None, None, again, other)

    def test_next_states_stand_as_they_were(self):
        rng = random.Random(144)
        album = random_album(rng, 4)
        book = fresh_book(album)
        for _ in range(10):
            book = changed(book, random_change(rng, album_in(book)))
        while book[1]:
            self.assertEqual(nexts_in(book), nexts_by_all(album_in(book)[1]))
            book = undone(book)
        self.assertEqual(album_in(book), album)


class Wrong(unittest.TestCase):
    def test_wrong_changes(self):
        rng = random.Random(145)
        albums = [LEFT, EIGHT, ((1, 1), SHY, ()), ((1, 1), SHY, (("a", (0,)),)), ((2, 4), quiet(8), ()),
                  ((7, 1), quiet(7), (("b", (0,) * 7), ("c", (0,) * 7))), random_album(rng, 4)]
        for album in albums:
            book = fresh_book(album)
            for value in wrong_changes(album):
                for call in (changed, work_of):
                    assert_refused(self, InvalidDeed, "given", value, call, (book, value))
            self.assertEqual(book, fresh_book(album))

    def test_each_element_left_out_or_doubled(self):
        book = fresh_book(LEFT)
        for change in (("cell", (ONE, NIL), (NIL, TWO), HALF, (1, 3)), ("strike", 0, (1, 1)), ("keep", "a", (0, 1)),
                       ("drop", "left"), ("made",), ("weight", 0, 1, ONE), ("mark", 0, ONE), ("turn", (0,)),
                       ("order", (1, 0))):
            changed(book, change)
            for at in range(len(change)):
                for wrong in (change[:at] + change[at + 1:], change[:at + 1] + change[at:]):
                    assert_refused(self, InvalidDeed, "given", wrong, changed, (book, wrong))
            assert_refused(self, InvalidDeed, "given", list(change), changed, (book, list(change)))

    def test_parameters_have_the_names_of_the_document(self):
        for call, names in ((fresh_book, "album"), (album_in, "book"), (nexts_in, "book"), (changed, "book change"),
                            (work_of, "book change"), (undone, "book"), (again, "book")):
            assert_signature(self, call, names)

    def test_names_stay_as_they_are(self):
        for change in (("turn", (0, 3)), ("order", (3, 2, 1, 0)), ("strike", 3, (3, 1))):
            deed = change[:2]
            after = album_in(changed(fresh_book(EIGHT), change))[2]
            self.assertEqual(after, tuple((name, led_by_all(deed, state)) for name, state in EIGHT[2]))


if __name__ == "__main__":
    unittest.main()
