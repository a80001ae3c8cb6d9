"""Each certificate: of two claims that exclude one another the one that is so, and a paper that is accepted."""
import random
import unittest
from fractions import Fraction

from heednets.albums import album_text
from heednets.certificates import (certify_any, certify_chances, certify_change, certify_coming, certify_dark,
                                   certify_end, certify_ends, certify_fewest, certify_kept, certify_leads,
                                   certify_lights, certify_nexts, certify_read, certify_run, certify_scales,
                                   certify_sure, certify_widest, certify_within)
from heednets.checker import accepts
from heednets.dice import end_chances
from heednets.energy import most_by_energy
from heednets.errors import (InvalidLot, InvalidNet, InvalidNumber, InvalidPictures, InvalidState, InvalidText,
                             NotHelping, NotScaled)
from heednets.helping import fewest
from heednets.keeping import keeping_net, widest
from heednets.nets import rests
from tests.accepted import accepted, is_so
from tests.helper import (ALIKE, BOLD, CAUGHT, CHASE, FREED, GREAT, LAME, LOPSIDED, ONE, PALS, SHY, STAIRS, STRANGE,
                          TURN, UNLIKE, WHEEL, Alike, Touchy, assert_refused, assert_signature, ends_by_all,
                          is_open_by_all, net_from, on_a_round, quiet, random_helping, random_net, random_scaled, reach,
                          sample_nets, sample_pictures, something_speaks, states_of, wrong_lots, wrong_nets,
                          wrong_pictures, wrong_rests, wrong_states)
from tests.second import led_by_all, nexts_by_all, random_album, random_deed, turned_by_all, wrong_deeds
from tests.test_albums import wrong_row
from tests.test_coming import comes_back_by_all
from tests.test_helping import NETS as HELPING
from tests.test_helping import HINDERED, all_lots, lights_by_all

NETS = sample_nets(170, 20, most=4) + [CAUGHT, FREED]
PICTURES = sample_pictures(171, 30)


class Certificates(unittest.TestCase):
    def setUp(self):
        self.told = {}

    def assert_all_came_up(self, *words):
        """So that both sides of what a certificate decides are tested."""
        for word in words:
            self.assertLess(1, self.told.get(word, 0), (word, self.told))

    def check(self, call, names, values, second=True):
        """The pair is a claim of the arguments as they were passed, and a paper for it, accepted by both checkers."""
        pair = call(*values)
        self.assertEqual(call(**dict(zip(names.split(), values))), pair)
        self.assertIs(type(pair), tuple)
        claim, paper = pair
        self.assertIs(accepts(claim, paper), True, pair)
        if second:
            self.assertIs(accepted(claim, paper), True, pair)
        for value, part in zip(values, claim[1:]):
            self.assertTrue(value is part)
        self.told[claim[0]] = self.told.get(claim[0], 0) + 1
        return claim, paper


class Nets(Certificates):
    def test_nets(self):
        for net in NETS:
            for call in (certify_end, certify_scales):
                claim, _ = self.check(call, "net", (net,))
                self.assertEqual(len(claim), 2)
                self.assertIs(is_so(claim), True)
            claim, _ = self.check(certify_nexts, "net", (net,))
            self.assertEqual(claim, ("nexts", net, nexts_by_all(net)))
            if not something_speaks(net):
                claim, _ = self.check(certify_within, "net", (net,))
                self.assertEqual(claim, ("ends within", net, most_by_energy(net)))
        self.assert_all_came_up("always ends", "goes round", "scales", "no scales", "ends within", "nexts")

    def test_eight_cells(self):
        rng = random.Random(172)
        for net in (random_scaled(rng, 8), random_net(rng, 8), quiet(8), random_scaled(rng, 8), random_net(rng, 8)):
            for call in (certify_end, certify_scales, certify_nexts):
                self.check(call, "net", (net,), second=False)
        for net in (random_scaled(rng, 8), quiet(8)):
            self.check(certify_within, "net", (net,), second=False)


class States(Certificates):
    def test_states(self):
        for net in NETS:
            states = states_of(len(net[1]))
            for state in states:
                claim, _ = self.check(certify_sure, "net state", (net, state))
                self.assertEqual(claim[0], "open" if is_open_by_all(net, state) else "sure")
                self.assertIs(is_so(claim), True)
                claim, _ = self.check(certify_ends, "net state", (net, state))
                self.assertEqual(list(claim[3]), ends_by_all(net, state))
                self.check(certify_run, "net state", (net, state))
                self.check_chances(net, state)
                self.check_dark(net, state)
                for other in states[::2]:
                    claim, _ = self.check(certify_leads, "net state other", (net, state, other))
                    self.assertEqual(claim, ("leads" if other in reach(net, state) else "leads not", net, state, other))
        self.assert_all_came_up("sure", "open", "ends", "run", "chances", "leads", "leads not", "turned to")

    def check_chances(self, net, state):
        claim, _ = self.check(certify_chances, "net state", (net, state))
        if any(on_a_round(net, met) for met in reach(net, state)):
            self.assertEqual(claim, ("open", net, state))
        else:
            self.assertEqual(claim, ("chances", net, state, end_chances(net, state)))

    def check_dark(self, net, state):
        lot = tuple(cell for cell, on in enumerate(state) if on)
        claim, paper = certify_dark(net, state)
        self.assertEqual((claim, paper), (("turned to", net, turned_by_all(net, lot), state), lot))
        self.assertEqual(certify_dark(net=net, state=state), (claim, paper))
        self.assertIs(accepts(claim, paper), True)
        self.told["turned to"] = self.told.get("turned to", 0) + 1

    def test_eight_cells(self):
        rng = random.Random(173)
        for net in (random_scaled(rng, 8), random_net(rng, 8), quiet(8), random_helping(rng, 8), random_net(rng, 8)):
            for state in rng.sample(states_of(8), 3) + [(1,) * 8]:
                for call in (certify_sure, certify_ends, certify_run, certify_chances):
                    self.check(call, "net state", (net, state), second=False)
                self.check_dark(net, state)
                for other in rng.sample(states_of(8), 3) + [state]:
                    self.check(certify_leads, "net state other", (net, state, other), second=False)

    def test_more_ends_than_two(self):
        # One of three stays on, whichever it is.
        net = net_from([[0, -1, -1], [-1, 0, -1], [-1, -1, 0]], ["-1/2"] * 3)
        for state in ((0, 0, 0), (1, 1, 1)):
            self.assertEqual(len(ends_by_all(net, state)), 3)
            for call in (certify_sure, certify_ends, certify_chances):
                self.check(call, "net state", (net, state))

    def test_a_state_that_comes_to_a_round_and_to_a_rest(self):
        # The one end of each state, but some come to a round.
        for net in (CAUGHT, FREED):
            for state in states_of(3):
                due = "open" if is_open_by_all(net, state) else "sure"
                self.assertEqual([certify_sure(net, state)[0][0], certify_chances(net, state)[0][0]],
                                 [due, "open" if any(on_a_round(net, met) for met in reach(net, state)) else "chances"])


class Pictures(Certificates):
    def test_pictures(self):
        for pictures in PICTURES:
            claim, _ = self.check(certify_kept, "pictures", (pictures,))
            self.assertEqual(claim, ("kept by none" if keeping_net(pictures) is None else "kept", pictures))
            claim, _ = self.check(certify_any, "pictures", (pictures,))
            self.assertEqual(len(claim), 2)
            if len(pictures) > 1:
                claim, _ = self.check(certify_widest, "pictures", (pictures,))
                self.assertEqual(claim, ("widest", pictures, widest(pictures)[0]))
        self.assert_all_came_up("kept", "kept by none", "widest", "kept by any", "not kept by any")

    def test_some_net_but_none_with_scales(self):
        for pictures in (LOPSIDED, GREAT):
            self.assertEqual([certify_kept(pictures)[0][0], certify_any(pictures)[0][0]],
                             ["kept by none", "kept by any"])
        for pictures in (UNLIKE, ((0,), (1,))):
            self.assertEqual([certify_kept(pictures)[0][0], certify_any(pictures)[0][0]],
                             ["kept by none", "not kept by any"])
        for pictures in (ALIKE, ((0,),), ((1,) * 8,)):
            self.assertEqual([certify_kept(pictures)[0][0], certify_any(pictures)[0][0]], ["kept", "kept by any"])


class Coming(Certificates):
    def test_coming(self):
        for net in NETS:
            for picture in rests(net):
                for many in range(len(picture) + 1):
                    claim, _ = self.check(certify_coming, "net picture many", (net, picture, many))
                    self.assertEqual(claim, ("comes back" if comes_back_by_all(net, picture, many) else "may go away",
                                             net, picture, many))
        self.assert_all_came_up("comes back", "may go away")

    def test_eight_cells(self):
        net = net_from([[0 if i == j else 1 for j in range(8)] for i in range(8)], ["7/2"] * 8)
        for picture in ((0,) * 8, (1,) * 8):
            for many in range(9):
                claim, _ = self.check(certify_coming, "net picture many", (net, picture, many), second=False)
                self.assertEqual(claim[0], "comes back" if many < 4 else "may go away")


class Helping(Certificates):
    def test_helping(self):
        for net in HELPING[:40]:
            for seeds in all_lots(len(net[1])):
                claim, _ = self.check(certify_lights, "net seeds", (net, seeds))
                self.assertEqual(claim, ("lights" if lights_by_all(net, seeds) else "lights not", net, seeds))
            claim, paper = self.check(certify_fewest, "net", (net,))
            self.assertEqual(claim, ("fewest", net, len(fewest(net)[0])))
            self.assertIn(paper[0], fewest(net))
        self.assert_all_came_up("lights", "lights not", "fewest")

    def test_eight_cells(self):
        rng = random.Random(174)
        for net in (random_helping(rng, 8), random_helping(rng, 8), quiet(8)):
            for seeds in ((), (0, 3), tuple(range(8)), (7,)):
                self.check(certify_lights, "net seeds", (net, seeds), second=False)
            self.check(certify_fewest, "net", (net,), second=False)

    def test_bold_cells_need_no_seeds(self):
        net = net_from([[0, 1], [1, 0]], ["-1/2", "1/2"])
        self.assertEqual([certify_lights(net, ()), certify_fewest(net)],
                         [(("lights", net, ()), (0, 1)), (("fewest", net, 0), ((), ()))])


class Deeds(Certificates):
    def test_changes_and_texts(self):
        rng = random.Random(175)
        for net in NETS:
            for _ in range(4):
                deed = random_deed(rng, net)
                claim, paper = self.check(certify_change, "net value", (net, deed))
                self.assertEqual([claim[0], claim[2], paper], ["change", deed, ()])
            for wrong in rng.sample(wrong_deeds(len(net[1])), 20):
                claim, paper = certify_change(net, wrong)
                self.assertEqual([claim[:2], paper], [("no change", net), ()])
                self.assertIs(claim[2], wrong)
                self.assertEqual(len(claim), 3)
                self.assertIs(accepts(claim, paper), True)
                self.told["no change"] = self.told.get("no change", 0) + 1
        for _ in range(60):
            album = random_album(rng)
            text = album_text(album)
            self.assertEqual(self.check(certify_read, "text", (text,))[0], ("read", text, album))
            at = rng.randrange(len(text))
            wrong = text[:at] + rng.choice(["", "#", "\n", "x"]) + text[at + 1:]
            claim, _ = self.check(certify_read, "text", (wrong,))
            if wrong_row(wrong) is not None:
                self.assertEqual(claim, ("not read", wrong, wrong_row(wrong)))
        self.assert_all_came_up("change", "no change", "read", "not read")

    def test_known_texts(self):
        self.assertEqual(certify_read(""), (("not read", "", 0), ()))
        self.assertEqual(certify_read("board 1 1\ncell 0 1\n"),
                         (("read", "board 1 1\ncell 0 1\n", ((1, 1), ((((0, 1),),), (ONE,)), ())), ()))


class Wrong(unittest.TestCase):
    def test_wrong_nets(self):
        for value in wrong_nets():
            for call in (certify_end, certify_scales, certify_within, certify_nexts, certify_fewest):
                assert_refused(self, InvalidNet, "given", value, call, (value,))
            for call in (certify_sure, certify_ends, certify_run, certify_chances, certify_lights, certify_change,
                         certify_dark):
                assert_refused(self, InvalidNet, "given", value, call, (value, None))
            for call in (certify_leads, certify_coming):
                assert_refused(self, InvalidNet, "given", value, call, (value, None, None))

    def test_nets_without_scales(self):
        for net in NETS + [TURN, WHEEL, CHASE]:
            if something_speaks(net):
                assert_refused(self, NotScaled, None, None, certify_within, (net,))

    def test_wrong_states(self):
        for net in (SHY, PALS, WHEEL, quiet(8)):
            many = len(net[1])
            for value in wrong_states(many):
                for call in (certify_sure, certify_ends, certify_run, certify_chances, certify_dark):
                    assert_refused(self, InvalidState, "given", value, call, (net, value))
                assert_refused(self, InvalidState, "given", value, certify_leads, (net, value, None))
                assert_refused(self, InvalidState, "given", value, certify_leads, (net, (0,) * many, value))

    def test_wrong_pictures_to_come_back_to(self):
        for net in (SHY, BOLD, PALS, CHASE, WHEEL, CAUGHT):
            for value in wrong_rests(net):
                assert_refused(self, InvalidState, "given", value, certify_coming, (net, value, None))
        for net, picture in ((SHY, (0,)), (PALS, (1, 1)), (CAUGHT, (1, 0, 1))):
            for value in STRANGE + (len(picture) + 1, -1, (0,), "0", [1]):
                assert_refused(self, InvalidNumber, "given", value, certify_coming, (net, picture, value))

    def test_wrong_pictures(self):
        for many in (1, 2, 3, 8):
            for value, index in wrong_pictures(many):
                for call in (certify_kept, certify_any):
                    assert_refused(self, InvalidPictures, "index", index, call, (value,))
                one = isinstance(value, tuple) and len(value) == 1
                assert_refused(self, InvalidPictures, "index", None if one else index, certify_widest, (value,))
        for pictures in (((0,),), ((1, 1),), ((0,) * 8,)):
            assert_refused(self, InvalidPictures, "index", None, certify_widest, (pictures,))
        self.assertEqual(certify_widest(STAIRS)[0][:2], ("widest", STAIRS))

    def test_wrong_seeds_and_nets_that_are_not_helping(self):
        for net in (SHY, PALS, quiet(8), CHASE, WHEEL):
            for value, index in wrong_lots(len(net[1])):
                assert_refused(self, InvalidLot, "index", index, certify_lights, (net, value))
        for net in HINDERED:
            assert_refused(self, NotHelping, None, None, certify_lights, (net, ()))
            assert_refused(self, NotHelping, None, None, certify_fewest, (net,))

    def test_what_is_no_text(self):
        for value in STRANGE + (b"board 1 1\n", ["board 1 1\n"], 0, Alike(), Touchy()):
            if not isinstance(value, str):
                assert_refused(self, InvalidText, "line", None, certify_read, (value,))

    def test_parameters_have_the_names_of_the_document(self):
        names = {certify_end: "net", certify_scales: "net", certify_within: "net", certify_sure: "net state",
                 certify_leads: "net state other", certify_ends: "net state", certify_run: "net state",
                 certify_chances: "net state", certify_kept: "pictures", certify_widest: "pictures",
                 certify_any: "pictures", certify_coming: "net picture many", certify_lights: "net seeds",
                 certify_fewest: "net", certify_nexts: "net", certify_change: "net value", certify_dark: "net state",
                 certify_read: "text"}
        for call, told in names.items():
            assert_signature(self, call, told)


class Known(unittest.TestCase):
    def test_which_claim(self):
        self.assertEqual([certify_end(net)[0][0] for net in (PALS, CHASE, SHY, LAME)],
                         ["always ends", "goes round", "always ends", "always ends"])
        self.assertEqual([certify_scales(net)[0][0] for net in (PALS, CHASE, TURN, LAME)],
                         ["scales", "no scales", "no scales", "scales"])
        self.assertEqual(certify_ends(CHASE, (0, 0))[0], ("ends", CHASE, (0, 0), ()))
        self.assertEqual(certify_leads(PALS, (1, 0), (1, 0)), (("leads", PALS, (1, 0), (1, 0)), ()))
        self.assertEqual(certify_leads(PALS, (0, 0), (1, 0)), (("leads not", PALS, (0, 0), (1, 0)), ((0, 0),)))
        self.assertEqual(certify_sure(PALS, (1, 1)), (("sure", PALS, (1, 1), (1, 1)), (((1, 1), 0),)))
        self.assertEqual(certify_run(PALS, (1, 0)), (("run", PALS, (1, 0), (), ((1, 0), (0, 1))), ()))
        self.assertEqual(led_by_all(("turn", (0,)), (1, 0)), certify_dark(PALS, (0, 0))[0][3])

    def test_numbers_of_many_figures(self):
        great = 10 ** 399 + 3
        net = net_from([[0, great, 0], [Fraction(great, 7), 0, 0], [0, 0, 0]], [Fraction(1, great), -great, 0])
        for call in (certify_end, certify_scales, certify_within, certify_nexts):
            self.assertIs(accepts(*call(net)), True)
        for state in states_of(3):
            for call in (certify_sure, certify_ends, certify_run, certify_chances, certify_dark):
                self.assertIs(accepts(*call(net, state)), True)


if __name__ == "__main__":
    unittest.main()
