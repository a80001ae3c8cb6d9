"""A plain second reckoning of nets, sample nets, and what several tests share."""
import inspect
import random
from fractions import Fraction
from itertools import permutations, product

NIL, ONE, TWO, HALF, LESS = (0, 1), (1, 1), (2, 1), (1, 2), (-1, 1)
PALS = (((NIL, ONE), (ONE, NIL)), (HALF, HALF))
CHASE = (((NIL, ONE), (LESS, NIL)), (HALF, (-1, 2)))
LAME = (((NIL, TWO), (ONE, NIL)), (HALF, HALF))
TURN = (((NIL, TWO, ONE), (ONE, NIL, ONE), (ONE, ONE, NIL)), (HALF, HALF, HALF))
WHEEL = (((NIL, NIL, LESS), (ONE, NIL, NIL), (NIL, ONE, NIL)), ((-1, 2), HALF, HALF))
SHY = (((NIL,),), (HALF,))
BOLD = (((NIL,),), ((-1, 2),))


def deep(levels):
    value = ()
    for _ in range(levels):
        value = (value,)
    return value


class Alike:
    """Equal to everything, so never to be taken for what it is compared with."""

    def __eq__(self, other):
        return True


class Touchy:
    """Not to be compared at all."""

    def __eq__(self, other):
        raise RuntimeError("compared")


# Nothing of this is a net, a state, a cell, a number, a row of cells, heights, a round or scales.
STRANGE = (None, True, False, "", "ab", b"ab", [], {}, set(), frozenset(), object(), len, int, NotImplemented,
           deep(60), [[0, 1]], "rest", {0: 1}, range(2), -1, 10 ** 300, (None, None), ((), ()), ("", ""), 1 + 2j)


def pair(number):
    number = Fraction(number)
    return (number.numerator, number.denominator)


def number(fraction):
    return Fraction(*fraction)


def net_from(weights, marks):
    """A net from rows of what Fraction takes."""
    return (tuple(tuple(pair(w) for w in row) for row in weights), tuple(pair(m) for m in marks))


def quiet(many):
    """A net of so many cells that heed nobody."""
    return net_from([[0] * many for _ in range(many)], [0] * many)


def states_of(many):
    """All states, ascending by their numbers."""
    return [state[::-1] for state in product((0, 1), repeat=many)]


def hears(net, cell, state):
    return sum((number(net[0][cell][j]) for j in range(len(state)) if state[j] == 1), Fraction(0))


def wants(net, state):
    return tuple(1 if hears(net, i, state) > number(net[1][i]) else 0 for i in range(len(state)))


def flipped(state, cell):
    return tuple(1 - on if i == cell else on for i, on in enumerate(state))


def leads(net, state):
    """The states to which one move leads."""
    wish = wants(net, state)
    return [flipped(state, i) for i in range(len(state)) if wish[i] != state[i]]


def reach(net, state):
    """All states that are come to, as a set."""
    seen, waiting = {state}, [state]
    while waiting:
        for behind in leads(net, waiting.pop()):
            if behind not in seen:
                seen.add(behind)
                waiting.append(behind)
    return seen


def on_a_round(net, state):
    return any(state in reach(net, behind) for behind in leads(net, state))


def longest(net, state):
    """The greatest number of moves from a state, by trying all; None without an end."""
    if any(on_a_round(net, met) for met in reach(net, state)):
        return None
    return max((1 + longest(net, behind) for behind in leads(net, state)), default=0)


def random_net(rng, many, low=-2, high=2, below=2):
    """A net with small numbers, so that sums often just meet the marks."""
    def any_number():
        return Fraction(rng.randint(low * below, high * below), rng.randint(1, below))
    return net_from([[0 if i == j else any_number() for j in range(many)] for i in range(many)],
                    [any_number() for _ in range(many)])


def random_scaled(rng, many, low=-2, high=2):
    """A net with scales, its scales by chance, some heeds 0."""
    scales = [Fraction(rng.randint(1, 4), rng.randint(1, 3)) for _ in range(many)]
    ties = {}
    for i in range(many):
        for j in range(i):
            ties[i, j] = ties[j, i] = rng.choice([0, Fraction(rng.randint(low * 2, high * 2), 2)])
    return net_from([[0 if i == j else ties[i, j] / scales[i] for j in range(many)] for i in range(many)],
                    [Fraction(rng.randint(-6, 6), 2) for _ in range(many)])


def sample_nets(seed, times, most=4):
    """Sample nets of one to MOST cells, with scales and without; the same ones each time."""
    rng = random.Random(seed)
    named = [PALS, CHASE, LAME, TURN, WHEEL, SHY, BOLD]
    made = []
    for _ in range(times):
        many = rng.randint(1, most)
        made.append(random_net(rng, many))
        made.append(random_scaled(rng, many))
    return named + made


def wrong_nets():
    """Values that are no nets, most of them nearly nets."""
    nine = quiet(8)
    wrong = [
        (), (PALS,), PALS + (HALF,), list(PALS), (list(PALS[0]), PALS[1]), (PALS[0], list(PALS[1])),
        ((list(PALS[0][0]), PALS[0][1]), PALS[1]), (((NIL, [1, 1]), (ONE, NIL)), (HALF, HALF)),
        ((), ()), (PALS[0], (HALF,)), (PALS[0], (HALF, HALF, HALF)), (PALS[0][:1], (HALF,)), (PALS[0][:1], PALS[1]),
        (((NIL, ONE), (ONE,)), (HALF, HALF)), (((NIL, ONE), (ONE, NIL), (ONE, NIL)), (HALF, HALF)),
        (((NIL, ONE, NIL), (ONE, NIL, NIL)), (HALF, HALF)),
        (((ONE, ONE), (ONE, NIL)), (HALF, HALF)), (((NIL, ONE), (ONE, LESS)), (HALF, HALF)),
        (((ONE,),), (HALF,)), (((NIL, 1), (ONE, NIL)), (HALF, HALF)), ((0, 0), (HALF, HALF)),
        (nine[0] + (nine[0][0],), nine[1] + (NIL,)),
        (tuple(row + (NIL,) for row in nine[0] + (nine[0][0],)), nine[1] + (NIL,)),
        (PALS, HALF), (PALS[1], PALS[0]), "ab", ("ab", "ab"), (b"ab", b"ab"), deep(60),
    ]
    for bad in ((2, 4), (0, 2), (1, 0), (0, 0), (1, -1), (-1, -2), (1,), (1, 2, 3), [1, 2], True, 1, None, "12",
                (True, 1), (1, True), (False, 1), (1, None), ("1", "2"), ((1, 2), 1), {1, 2}, b"12"):
        wrong.append((((NIL, bad), (ONE, NIL)), (HALF, HALF)))
        wrong.append((PALS[0], (HALF, bad)))
        wrong.append((((bad,),), (HALF,)))
    return wrong + list(STRANGE)


def wrong_states(many):
    """Values that are no states of so many cells."""
    right = (0, 1) * 4
    right = right[:many]
    wrong = [(), right + (0,), right[1:], list(right), "01"[:many], b"01"[:many], right[1:] + (2,), right[1:] + (-1,),
             right[1:] + (None,), right[1:] + ("0",), right[1:] + (True,), (False,) + right[1:], right[1:] + ((0,),)]
    return wrong + list(STRANGE)


def wrong_cells(many):
    return [many, many + 1, -1, -many, (0,), [0], "0", b"0"] + [value for value in STRANGE if value != -1]


def assert_raises(test, kind, attribute, given, call, *values, **named):
    """The call raises just this class, and its attribute is what was given."""
    with test.assertRaises(ValueError) as caught:
        call(*values, **named)
    test.assertEqual(caught.exception.__class__.__name__, kind.__name__)
    test.assertIs(caught.exception.__class__, kind)
    if attribute is None:
        test.assertEqual(vars(caught.exception), {})
    else:
        told = getattr(caught.exception, attribute)
        test.assertTrue(told is given or told == given, (told, given))


def assert_refused(test, kind, attribute, given, call, values):
    """The call raises so with its arguments by position and by name."""
    assert_raises(test, kind, attribute, given, call, *values)
    names = list(inspect.signature(call).parameters)
    assert_raises(test, kind, attribute, given, call, **dict(zip(names, values)))


def assert_signature(test, call, names):
    """The call takes just these parameters, each of them by position and by name."""
    parameters = inspect.signature(call).parameters
    test.assertEqual(list(parameters), names.split())
    for parameter in parameters.values():
        test.assertEqual(parameter.kind, inspect.Parameter.POSITIONAL_OR_KEYWORD)
        test.assertIs(parameter.default, inspect.Parameter.empty)


def all_rings(net):
    """All rows of three or more unlike cells."""
    many = len(net[1])
    return [cells for length in range(3, many + 1) for cells in permutations(range(many), length)]


def pair_speaks(net, cell, other):
    signs = [(heed[0] > 0) - (heed[0] < 0) for heed in (net[0][cell][other], net[0][other][cell])]
    return cell < other and signs[0] != signs[1]


def ring_speaks(net, cells):
    there = back = Fraction(1)
    for cell, behind in zip(cells, cells[1:] + cells[:1]):
        there *= number(net[0][cell][behind])
        back *= number(net[0][behind][cell])
    return 0 not in (there, back) and there != back


def something_speaks(net):
    many = len(net[1])
    return (any(pair_speaks(net, i, j) for i in range(many) for j in range(many))
            or any(ring_speaks(net, cells) for cells in all_rings(net)))


def fits_scales(net, scales):
    """Whether Fractions are scales for the net."""
    many = len(net[1])
    return min(scales) > 0 and all(scales[i] * number(net[0][i][j]) == scales[j] * number(net[0][j][i])
                                   for i in range(many) for j in range(many))


def part_of(net, cell):
    """The cells that hang together with a cell, as a set."""
    seen, waiting = {cell}, [cell]
    while waiting:
        at = waiting.pop()
        for other in range(len(net[1])):
            if other not in seen and (net[0][at][other] != NIL or net[0][other][at] != NIL):
                seen.add(other)
                waiting.append(other)
    return seen


def scales_of(net):
    """The told scales as Fractions, found part by part; None."""
    if something_speaks(net):
        return None
    many = len(net[1])
    scales = [Fraction(1) if min(part_of(net, cell)) == cell else None for cell in range(many)]
    while None in scales:
        for i in range(many):
            for j in range(many):
                if scales[i] is not None and scales[j] is None and net[0][i][j] != NIL:
                    scales[j] = scales[i] * number(net[0][i][j]) / number(net[0][j][i])
    return scales


def spare_by_all(net, cell):
    overs = [hears(net, cell, state) - number(net[1][cell]) for state in states_of(len(net[1]))]
    return min((over for over in overs if over > 0), default=None)


def steps_by_all(net):
    spares = [spare_by_all(net, cell) for cell in range(len(net[1]))]
    return [Fraction(1) if spare is None else spare / 2 for spare in spares]


def lifted_by_all(net):
    return [number(mark) + step for mark, step in zip(net[1], steps_by_all(net))]


def energy_by_all(net, scales, state):
    """The energy by its words."""
    many, marks = len(state), lifted_by_all(net)
    on = [cell for cell in range(many) if state[cell] == 1]
    ties = sum((scales[i] * number(net[0][i][j]) for i in on for j in on), Fraction(0))
    return sum((scales[i] * marks[i] for i in on), Fraction(0)) - ties / 2


def drop_by_all(net, scales):
    return min(scale * step for scale, step in zip(scales, steps_by_all(net)))


def level_by_all(net, scales, other, state):
    """The level by its words."""
    many, marks = len(state), lifted_by_all(net)
    total = sum((scales[i] * marks[i] for told in (other, state) for i in range(many) if told[i] == 1), Fraction(0))
    return total - sum((scales[i] * number(net[0][i][j]) for i in range(many) for j in range(many)
                        if other[i] == 1 and state[j] == 1), Fraction(0))


def tail_and_ring_by_all(step, state):
    """The states from a state on by a step, up to the first that would come again."""
    told = [state]
    while step(told[-1]) not in told:
        told.append(step(told[-1]))
    at = told.index(step(told[-1]))
    return tuple(told[:at]), tuple(told[at:])


def pass_by_all(net, state, order):
    for cell in order:
        if wants(net, state)[cell] != state[cell]:
            state = flipped(state, cell)
    return state


# Cells 0 and 1 chase one another until cell 2, which may go on beside cell 0, holds cell 0 on: a round, and one end.
CAUGHT = net_from([[0, 1, 5], [-1, 0, 0], [1, 0, 0]], ["1/2", "-1/2", "1/2"])
# Cell 2 holds cell 0 on until it goes off for good; then cells 0 and 1 chase one another.
FREED = net_from([[0, 1, 5], [-1, 0, 0], [0, 0, 0]], ["1/2", "-1/2", 0])


def rests_by_all(net):
    return [state for state in states_of(len(net[1])) if wants(net, state) == state]


def ends_by_all(net, state):
    """All rests that are come to, ascending by their numbers."""
    return [rest for rest in rests_by_all(net) if rest in reach(net, state)]


def is_open_by_all(net, state):
    return len(ends_by_all(net, state)) > 1 or any(on_a_round(net, met) for met in reach(net, state))


def random_helping(rng, many):
    """A net without weights below 0, many of them 0."""
    rows = [[0 if i == j else rng.choice([0, 0, Fraction(1, 2), 1, 2]) for j in range(many)] for i in range(many)]
    return net_from(rows, [rng.choice([Fraction(-1, 2), 0, Fraction(1, 2), 1, Fraction(3, 2), 2]) for _ in range(many)])


def wrong_rests(net):
    """States that are no rests of the net, and what is no state."""
    states = states_of(len(net[1]))
    return [state for state in states if wants(net, state) != state] + wrong_states(len(net[1]))


def wrong_lots(many):
    """Pairs of a value that is no ascending tuple of so many cells and the index that is told."""
    last = many - 1
    wrong = [([], None), ([0], None), ({0}, None), ({0: 1}, None), (range(1), None), ("0", None), (0, None),
             ((many,), 0), ((-1,), 0), ((0, 0), 1), ((last, last), 1), ((0, many), 1), ((0, -1), 1), ((True,), 0),
             ((False,), 0), ((0, True), 1), ((0, None), 1), ((None, 0), 0), (((0,),), 0), ((0, (1,)), 1), (("0",), 0),
             ((b"",), 0), ((many, 0), 0), (tuple(range(many + 1)), many), (tuple(range(many)) * 2, many)]
    if many > 1:
        wrong += [((1, 0), 1), ((0, last, 0), 2), ((last, 0, many), 1)]
    if many > 2:
        wrong += [((0, 2, 1), 2), ((1, 2, 2), 2), ((2, 1, 0), 1)]
    return wrong + [(value, 0 if isinstance(value, tuple) else None) for value in STRANGE if value != ()]


def random_pictures(rng, many, count):
    states = states_of(many)
    return tuple(states[at] for at in sorted(rng.sample(range(len(states)), count)))


def wrong_pictures(many):
    """Pairs of a value that is no tuple of one to eight states of so many cells and the index that is told."""
    dark, last, lit = (0,) * many, (0,) * (many - 1) + (1,), (1,) * many
    wrong = [((), None), ([dark], None), ([dark, lit], None), ({dark: 1}, None), (dark + dark, None if many > 4 else 0),
             (tuple(states_of(4)[:9]), None), ((dark,) * 9, None), ((None,) * 9, None),
             ((dark, dark), 1), ((lit, dark), 1), ((last, last), 1), ((dark, lit, lit), 2), ((dark, lit, dark), 2),
             (((),), 0), (((), dark), 0), ((dark, ()), 1), ((dark, (0,) * (many + 1)), 1),
             ((dark, lit + (1,)), 1), ((dark, lit[1:]), 1), ((dark, list(lit)), 1), ((list(dark), lit), 0),
             ((dark, "1" * many), 1), (("0" * many,), 0), ((dark, None), 1), ((None, dark), 0), ((dark, 1), 1),
             ((dark[1:] + (False,), lit), 0), ((dark, lit[1:] + (True,)), 1), ((dark, lit[1:] + (2,)), 1),
             ((lit[1:] + (-1,),), 0), ((dark, (dark,)), 1), ((dark, None, dark), 1), ((dark, lit, None), 2),
             (((0,) * 9,), 0), (((0,) * 9, (1,) * 9), 0), (deep(50), 0)]
    if many > 1:
        # By their numbers, not as tuples: cell 0 alone is 1, the last cell alone is more.
        first = (1,) + (0,) * (many - 1)
        wrong += [((last, first), 1), ((dark, last, first), 2), ((first, last, first), 2)]
    return wrong + [(value, 0 if isinstance(value, tuple) else None) for value in STRANGE if value != ()]


def side_in(picture, cell):
    return 1 if picture[cell] == 1 else -1


def margin_by_all(net, pictures):
    return min(side_in(picture, cell) * (hears(net, cell, picture) - number(net[1][cell]))
               for picture in pictures for cell in range(len(picture)))


def keeps_by_all(net, pictures):
    return all(wants(net, picture) == picture for picture in pictures)


def are_blames_by_all(pictures, rows):
    """Whether rows of Fractions are blames of the pictures."""
    cells = range(len(pictures[0]))
    return (all(blame >= 0 for row in rows for blame in row) and sum(sum(row) for row in rows) == 1
            and all(sum(side_in(picture, cell) * row[cell] for picture, row in zip(pictures, rows)) == 0
                    for cell in cells))


def bound_by_all(pictures, rows):
    """The bound of blames by its words."""
    total, many = Fraction(0), len(pictures[0])
    for one in range(many):
        for other in range(one + 1, many):
            total += abs(sum(side_in(picture, one) * row[one] * picture[other]
                             + side_in(picture, other) * row[other] * picture[one]
                             for picture, row in zip(pictures, rows)))
    return total


# Some net keeps these, but none with scales.
LOPSIDED = ((1, 1, 0, 0, 1, 0, 0), (0, 0, 1, 0, 0, 1, 0), (1, 0, 0, 0, 1, 1, 0), (1, 0, 1, 1, 1, 1, 0),
            (1, 1, 0, 1, 0, 0, 1), (0, 0, 1, 0, 1, 0, 1), (0, 1, 1, 0, 0, 1, 1), (0, 1, 0, 0, 1, 1, 1))
# So with eight cells.
GREAT = ((0, 0, 0, 0, 1, 0, 0, 0), (0, 0, 1, 0, 0, 0, 1, 0), (0, 0, 0, 1, 1, 1, 1, 0), (0, 0, 0, 1, 1, 0, 0, 1),
         (1, 0, 1, 1, 1, 1, 0, 1), (0, 0, 1, 0, 1, 0, 1, 1), (0, 0, 1, 0, 0, 1, 1, 1), (1, 0, 0, 1, 1, 1, 1, 1))
# Eight pictures of eight cells, the first cells on: no, one, two .. of them.
STAIRS = tuple((1,) * step + (0,) * (8 - step) for step in range(8))
ALIKE, UNLIKE = ((0, 0), (1, 1)), ((0, 0), (1, 0), (0, 1), (1, 1))


def sample_pictures(seed, times):
    """Pictures of one to eight cells, one to eight of them; the same ones each time."""
    rng = random.Random(seed)
    made = [ALIKE, UNLIKE, LOPSIDED, GREAT, STAIRS, ((0,),), ((1,),), ((0,), (1,)), ((1,) * 8,), ((0,) * 8, (1,) * 8),
            # Two that differ in one cell; cells alike in all pictures, on or off.
            ((0, 1, 0, 1), (1, 1, 0, 1)), ((1, 0, 0, 1), (0, 1, 0, 1)), ((1, 0, 0, 1), (0, 1, 0, 1), (1, 1, 0, 1)),
            tuple(tuple(1 if cell == lit else 0 for cell in range(8)) for lit in range(8))]
    for _ in range(times):
        many = rng.randint(1, 8)
        made.append(random_pictures(rng, many, rng.randint(1, min(8, 2 ** many))))
    return made
