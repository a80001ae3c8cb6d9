"""The sessions of the document run as they stand there."""
import unittest

from tests.sessions import (ALBUMS, ATONCE, BOOKS, CERTIFICATES, CHECKER, CONSOLE, DEEDS, DICE, ENERGY, FENCES, FILMS,
                            HEIGHTS, HELPING, MADE, NETS, SCALES, run_session)

LANDED = (NETS, HEIGHTS, SCALES, ENERGY, ATONCE, DICE, FENCES, HELPING, ALBUMS, DEEDS, BOOKS, FILMS, MADE, CONSOLE,
          CHECKER, CERTIFICATES)


class Sessions(unittest.TestCase):
    def test_sessions_go_on_from_one_to_the_next(self):
        known = {}
        for session in LANDED:
            self.assertEqual(run_session(session, known), [])

    def test_a_wrong_answer_would_be_told(self):
        self.assertEqual(run_session(">>> 1 + 1\n3\n", {}), [(">>> 1 + 1", "2")])


if __name__ == "__main__":
    unittest.main()
