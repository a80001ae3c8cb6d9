"""Point [2] and the conventions [3] to [5] over the whole program."""
import copy
import importlib
import inspect
import random
import unittest

from heednets import certificates as certs
from heednets.books import changed, fresh_book, nexts_in
from heednets.checker import accepts
from heednets.console import fresh_console, told_all
from heednets.deeds import behind, leaves, next_states, turned
from heednets.energy import energy, lifted, most_by_energy
from heednets.heights import heights_or_round
from heednets.keeping import keeping_net, widest
from heednets.nets import rests
from heednets.scales import are_scales, scales_or_against
from tests.helper import (ALIKE, CAUGHT, CHASE, LAME, PALS, SHY, TURN, UNLIKE, WHEEL, leads, longest, net_from,
                          random_helping, random_scaled, sample_nets, sample_pictures, states_of)
from tests.second import behind_by_all, nexts_by_all, random_album, random_deed
from tests.test_console import line_of

INTERFACE = {
    "nets": "is_net is_state number_of state_of heard wanted movers moved is_rest rests",
    "heights": "heights_or_round are_heights is_round most_moves",
    "scales": "is_even are_scales scales_or_against speaks_against",
    "energy": "spare lifted energy drop most_by_energy",
    "atonce": "run swings rings level most_steps",
    "orders": "pass_behind order_run is_row behind_row",
    "ends": "come_to ends is_sure row_to round_at fold",
    "dice": "end_chances mean_moves",
    "keeping": "does_keep margin bound_of widest keeping_net",
    "fences": "fence two_mixes any_net",
    "coming": "does_come_back radius row_away",
    "helping": "is_helping spread does_light is_stubborn stubborn_lots least_seeds fewest least_rest greatest_rest "
               "rest_above",
    "albums": "is_album is_name album_text read_album",
    "deeds": "fits behind led leaves turned next_states",
    "books": "fresh_book album_in nexts_in changed work_of undone again",
    "films": "rows_of read_rows drawing read_drawing",
    "made": "net_of",
    "console": "fresh_console said told_all",
    "checker": "accepts",
    "certificates": "certify_end certify_scales certify_within certify_sure certify_leads certify_ends certify_run "
                    "certify_chances certify_kept certify_widest certify_any certify_coming certify_lights "
                    "certify_fewest certify_nexts certify_change certify_dark certify_read",
}
NETS = sample_nets(200, 15, most=4) + [CAUGHT]


class Interface(unittest.TestCase):
    def test_each_function_is_defined_in_the_file_under_which_it_stands(self):
        for name, words in INTERFACE.items():
            module = importlib.import_module("heednets." + name)
            for word in words.split():
                found = getattr(module, word)
                self.assertTrue(inspect.isfunction(found), word)
                self.assertEqual(found.__module__, "heednets." + name)
                self.assertEqual(found.__name__, word)


class Promises(unittest.TestCase):
    def test_alike_both_ways(self):
        for net in NETS:
            word, told = scales_or_against(net)
            claim, paper = certs.certify_scales(net)
            self.assertIs(accepts(claim, paper), True)
            if word != "scales":
                self.assertIs(accepts(("no scales", net), (word, told)), True)
                continue
            # Whoever moves when: no row of moves has more than so many.
            most = most_by_energy(net)
            self.assertIs(accepts(("ends within", net, most), told), True)
            for state in states_of(len(net[1])):
                self.assertLessEqual(longest(net, state), most)
                for after in leads(net, state):
                    self.assertLess(energy(net, after)[0] * energy(net, state)[1],
                                    energy(net, state)[0] * energy(net, after)[1])

    def test_heights_or_a_round(self):
        for net in NETS:
            word, told = heights_or_round(net)
            right, wrong = ("always ends", "goes round") if word == "heights" else ("goes round", "always ends")
            self.assertEqual([accepts((right, net), told), accepts((wrong, net), told)], [True, False])

    def test_pictures(self):
        for pictures in sample_pictures(201, 15):
            net = keeping_net(pictures)
            if net is not None:
                self.assertIs(accepts(("kept", pictures), net), True)
            if len(pictures) > 1:
                number, mild, blames = widest(pictures)
                self.assertIs(accepts(("widest", pictures, number), (mild, blames)), True)
                self.assertIs(accepts(("kept by none", pictures), blames), net is None)

    def test_helping(self):
        rng = random.Random(202)
        for _ in range(10):
            net = random_helping(rng, rng.randint(1, 5))
            claim, (seeds, lots) = certs.certify_fewest(net)
            self.assertIs(accepts(claim, (seeds, lots)), True)
            for at in range(claim[2]):
                self.assertIs(accepts(("fewest", net, at), (seeds[:at], lots)), False)
            self.assertEqual(certs.certify_lights(net, seeds)[0][0], "lights")


class Conventions(unittest.TestCase):
    def test_equal_calls_return_equal_results_and_change_nothing(self):
        rng = random.Random(203)
        for net in (PALS, CHASE, LAME, TURN, WHEEL, SHY):
            state, deed = rng.choice(states_of(len(net[1]))), random_deed(rng, net)
            for call, values in ((certs.certify_end, (net,)), (certs.certify_scales, (net,)), (next_states, (net,)),
                                 (certs.certify_sure, (net, state)), (certs.certify_chances, (net, state)),
                                 (behind, (net, deed)), (leaves, (net, deed)), (certs.certify_change, (net, deed)),
                                 (turned, (net, (0,)))):
                ahead = copy.deepcopy(values)
                self.assertEqual(repr(call(*values)), repr(call(*copy.deepcopy(values))))
                self.assertEqual(repr(values), repr(ahead))
        for pictures in (ALIKE, UNLIKE):
            for call in (certs.certify_kept, certs.certify_any, certs.certify_widest):
                self.assertEqual(repr(call(pictures)), repr(call(copy.deepcopy(pictures))))

    def test_what_was_returned_may_be_passed_whatever_the_size_of_its_numbers(self):
        great = 10 ** 399 + 9
        net = net_from([[0, great, f"1/{great}"], [great + 2, 0, 1], [f"{great}/7", -1, 0]],
                       [f"-{great}/{great + 2}", f"5/{great}", 0])
        for _ in range(3):
            net = turned(lifted(net), (0, 1, 2))
        self.assertTrue(net[1][0][1] > 10 ** 500)
        album = ((3, 1), net, (("a", (1, 0, 1)),))
        book = fresh_book(album)
        for change in (("turn", (1,)), ("order", (2, 0, 1)), ("mark", 0, net[1][1]), ("weight", 0, 1, net[1][2])):
            book = changed(book, change)
            now = book[0][0][1]
            self.assertEqual(nexts_in(book), nexts_by_all(now))
            for call in (certs.certify_end, certs.certify_scales, certs.certify_nexts):
                self.assertIs(accepts(*call(now)), True)
            for state in states_of(3):
                for call in (certs.certify_sure, certs.certify_dark, certs.certify_ends):
                    self.assertIs(accepts(*call(now, state)), True)

    def test_the_console_tells_what_the_modules_tell(self):
        rng = random.Random(204)
        for _ in range(15):
            album = random_album(rng, 4)
            net = album[1]
            many = len(net[1])
            deed = ("turn", tuple(sorted(rng.sample(range(many), rng.randint(0, many)))))
            console, answers = told_all(fresh_console(), (line_of(album), " ".join(["turn", *map(str, deed[1])]),
                                                          "rests", "falls", "scales"))
            after = behind_by_all(net, deed)
            self.assertEqual(console[0][0][0][1], after)
            found = ["".join(".#"[on] for on in rest) for rest in rests(after)]
            self.assertEqual(answers[2], "\n".join(found) or "none")
            self.assertEqual(answers[3], certs.certify_end(after)[0][0])
            self.assertEqual(answers[4] == "no scales", certs.certify_scales(after)[0][0] == "no scales")

    def test_scales_stay_behind_a_turn(self):
        rng = random.Random(205)
        for _ in range(10):
            net = random_scaled(rng, rng.randint(1, 4))
            told = scales_or_against(net)[1]
            self.assertIs(are_scales(turned(net, (0,)), told), True)


if __name__ == "__main__":
    unittest.main()
