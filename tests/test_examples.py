"""The document's examples, as it writes them."""

import doctest
import unittest

RULES = """
>>> from nearadds.rules import behind, by_prime, plus, power, put_together, round_step, step
>>> both = (2, ((-1, 1), (1, 1)))
>>> [step(both, (2, ((0, 1),))), power(both, 2), behind(both, both) == power(both, 2), plus(both, both), round_step(both, (2, (1, 0, 0, 0)))]
[(2, ((-1, 1), (1, 1))), (2, ((-2, 1), (2, 1))), True, (2, ()), (2, (0, 1, 0, 1))]
>>> [by_prime((6, ((0, 2), (1, 3))), 2), by_prime((6, ((0, 2), (1, 3))), 3), put_together(6, [((1, 1),), ((0, 2),)])]
[((1, 1),), ((0, 2),), (6, ((0, 2), (1, 3)))]
"""

FACTORS = """
>>> from nearadds.factors import common, factored, is_factor, of_factors, order
>>> both, three = (2, ((-1, 1), (1, 1))), (2, ((-1, 1), (0, 1), (1, 1)))
>>> [factored(both), factored(three), order(2, (1, 1)), order(2, (1, 1, 1)), order(3, (1, 1)), is_factor(2, (1, 0, 1)), common(both, three)]
[[(2, -1, 1, (((1, 1), 2),))], [(2, -1, 1, (((1, 1, 1), 1),))], 1, 3, 2, False, [(1,)]]
>>> [factored((6, ((0, 3), (1, 3)))), of_factors(2, [(2, -1, 1, (((1, 1), 2),))])]
[[(2, 0, 1, (((1, 1), 1),)), (3,)], (2, ((-1, 1), (1, 1)))]
"""

PROGRAMS = """
>>> from nearadds.programs import alike, parting, span, total, undone
>>> both, fours = ((-1, 1), (1, 1)), ((-4, 1), (4, 1))
>>> [alike((2, ((both, 4),)), (2, ((fours, 1),))), alike((2, ((both, 4 * 10 ** 29),)), (2, ((fours, 10 ** 29),))), span((2, ((both, 10 ** 30),)))]
[True, True, (-1000000000000000000000000000000, 1000000000000000000000000000000)]
>>> [parting((2, ((both, 2),)), (2, ((((0, 1),), 1),))), total((3, ((both, 10 ** 30),))), undone((3, ((((2, 2),), 5),))), undone((2, ((both, 1),)))]
[(-2, 1, 0), 1, (3, ((((-2, 2),), 5),)), None]
"""

MEETS = """
>>> from nearadds.meets import comes_round, greatest_root, meets, meets_often, root
>>> both, twos = (2, ((-1, 1), (1, 1))), (2, ((-2, 1), (2, 1)))
>>> [meets(both, twos), meets_often(both, twos), meets(both, (2, ((0, 1),))), root((2, ((-2, 1), (2, 1))), 4), greatest_root(twos), comes_round((7, ((0, 3),)))]
[(2, 1), 'multiples', None, None, 2, 6]
>>> [root((2, ((0, 1), (2, 1))), 2), meets((3, ((0, 2),)), (3, ((0, 2),))), meets_often((3, ((0, 2),)), (3, ((0, 2),)))]
[(2, ((0, 1), (1, 1))), (1, 1), 'further']
"""

FARCELLS = """
>>> from nearadds.farcells import cell, cells, first_cell, parting_cell, row_total
>>> both = ((-1, 1), (1, 1))
>>> [cells((2, ((both, 3),)), (2, ((0, 1),)), -3, 7), cell((2, ((both, 2 ** 90),)), (2, ((0, 1),)), 2 ** 90), first_cell((2, ((both, 10 ** 20),)), (2, ((5, 1),))), row_total((2, ((both, 1),)), (2, ((0, 1),)))]
[[1, 0, 1, 0, 1, 0, 1], 1, -99999999999999999995, 0]
>>> parting_cell((2, ((both, 1),)), (2, ((((0, 1),), 1),)), (2, ((0, 1),)))
(-1, 1, 0)
"""

BACKWARD = """
>>> from nearadds.backward import ahead, bars, row_back, steps_back
>>> both = (2, ((-1, 1), (1, 1)))
>>> [ahead(both, (2, ((0, 1), (2, 1)))), ahead(both, (2, ((0, 1),))), bars(both, (2, ((0, 1),)), (2, (1, 0))), steps_back(both, (2, ((-2, 1), (2, 1)))), row_back(both, (2, ((-2, 1), (2, 1))), 2)]
[(2, ((1, 1),)), None, True, 2, (2, ((0, 1),))]
"""

KERNELS = """
>>> from nearadds.kernels import both_die, dies_in, dying_cell, dying_round, free_cells
>>> both, three = (2, ((-1, 1), (1, 1))), (2, ((-1, 1), (0, 1), (1, 1)))
>>> [free_cells(both, 10 ** 30), dying_cell(three, 1, (1, 1), 10 ** 50), dying_round(three, 1, (1, 1)), dies_in(both, (2, (1, 0, 0, 0))), dies_in(both, (2, (1, 1, 0))), both_die(both, three)]
[2000000000000000000000000000000, 1, 3, 2, None, 0]
"""

TOLDBACK = """
>>> from nearadds.toldback import fitting, further_hold, how_many, more_looks, refuses, sure_value, wrong_looks
>>> looks = (((1, 0, 0), 1), ((0, 0, 1), 1))
>>> [how_many(2, 1, looks), sure_value(2, 1, looks, (1, 0, 1)), sure_value(2, 1, looks, (0, 1, 0)), more_looks(2, 1, looks), fitting(2, 1, looks + (((0, 1, 0), 0),))]
[2, 0, None, 1, (2, ((-1, 1), (1, 1)))]
>>> [wrong_looks(2, 1, looks + (((1, 0, 1), 1),)), refuses(2, 1, looks + (((1, 0, 1), 1),), (2, (1, 1, 1))), further_hold(2, 1, looks, [(2, (2, ((0, 1),)))])]
[1, True, True]
"""

ROUNDS = """
>>> from nearadds.rounds import comes_again, least_ahead, round_after, round_bars, rounds_ahead
>>> both, three = (2, ((-1, 1), (1, 1))), (2, ((-1, 1), (0, 1), (1, 1)))
>>> [round_after((2, ((both[1], 2),)), (2, (1, 0, 0, 0))), round_after((2, ((both[1], 10 ** 30),)), (2, (1, 1, 0))), rounds_ahead(both, (2, (1, 0, 0))), rounds_ahead(both, (2, (1, 1, 0)))[2]]
[(2, (0, 0, 0, 0)), (2, (1, 1, 0)), ('none',), 2]
>>> [round_bars(both, (2, (1, 0, 0)), (2, (1, 1, 1))), least_ahead(both, (2, (1, 0, 0)))[0], least_ahead(both, (2, (1,)))[0], comes_again(both, (2, (1, 0, 0, 0))), comes_again(both, (2, (1, 1, 0)))]
[True, 4, 4, (2, 1), (0, 1)]
"""

RINGS = """
>>> from nearadds.rings import coming_dims, first_unlike_ring, longest_tail, loses, losing, nought_dims, ring_round, rounds_of
>>> both, three = (2, ((-1, 1), (1, 1))), (2, ((-1, 1), (0, 1), (1, 1)))
>>> [losing(both), losing(three), loses(three, 10 ** 30), nought_dims(three, 6), coming_dims(three, 6), longest_tail(three, 6), first_unlike_ring(both, three)]
[[1], [3], False, [(2, 2)], [(2, 2)], 2, 1]
>>> [ring_round(three, 4), rounds_of(three, 4)]
[2, [(1, 4), (2, 12)]]
"""

WALLS = """
>>> from nearadds.walls import unfolded, walled_losing, walled_noughts, walled_step, walled_tail
>>> both, three = (2, ((-1, 1), (1, 1))), (2, ((-1, 1), (0, 1), (1, 1)))
>>> [unfolded((3, (1, 2)), "nought"), walled_step(both, (2, (1, 0, 0)), "nought"), walled_step(both, (2, (1, 0, 0)), "mirror")]
[(3, (1, 2, 0, 1, 2, 0)), (2, (0, 1, 0)), (2, (1, 1, 0))]
>>> [walled_losing(both, "nought"), walled_losing(both, "mirror"), walled_losing(three, "nought"), walled_losing(three, "mirror"), walled_noughts(both, "nought", 7), walled_tail(both, "nought", 7)]
[[2], [1], [3], [3], [(2, 1)], 7]
"""

KEPTSUMS = """
>>> from nearadds.keptsums import all_round_weights, free_weights, ring_weights, weight, weight_rings, weighted, weights_round
>>> both, three = (2, ((-1, 1), (1, 1))), (2, ((-1, 1), (0, 1), (1, 1)))
>>> [free_weights(three, 1), weight(three, 1, (1, 0), 10 ** 50), weighted(three, 1, (1, 0), (2, ((0, 1), (3, 1)))), weights_round(three, 1, (1, 0)), ring_weights(three, 1, 6), weight_rings(three, 1), all_round_weights(three, 1, 4)]
[2, 1, 1, 2, [(2, 2)], [1], [[1, 0, 1, 0], [0, 1, 0, 1]]]
"""

LIVEROW = """
>>> from nearadds.liverow import Live
>>> both, three = (2, ((-1, 1), (1, 1))), (2, ((-1, 1), (0, 1), (1, 1)))
>>> live = Live((2, ((0, 1),)))
>>> [live.step(both), live.step(both), live.row, live.back(both), live.undo(), live.count(), live.far((2, ((both[1], 2),)), 0), len(live)]
[3, 4, (2, ((-2, 1), (2, 1))), 4, 'back', 2, 0, 2]
"""

TEXTS = """
>>> from nearadds.texts import show_program, show_round, show_row, show_rule
>>> both, three = (2, ((-1, 1), (1, 1))), (2, ((-1, 1), (0, 1), (1, 1)))
>>> [show_rule(both), show_row((3, ((-5, 2), (0, 1)))), show_round((2, (1, 0))), show_program((2, ((both[1], 4), ((), 0)))), show_rule((5, ()))]
['2: -1*1 1*1', '3: -5=2 0=1', '2: 1 0', '2: -1*1 1*1 ^ 4; - ^ 0', '5: -']
"""

DESK = """
>>> from nearadds.desk import Desk
>>> desk = Desk()
>>> [desk.execute(line) for line in ["row 2: 0=1", "step 2: -1*1 1*1", "show", "far 0 2: -1*1 1*1 ^ 1", "put 7 1", "count", "undo", "total"]]
['ok', '3', '2: -1=1 1=1', '0', '1', '3', 'put', '0']
"""


class Examples(unittest.TestCase):

    def shown(self, text):
        told = []
        test = doctest.DocTestParser().get_doctest(text, {}, "examples", None, 0)
        result = doctest.DocTestRunner().run(test, out=told.append)
        self.assertGreater(result.attempted, 2)
        self.assertEqual(result.failed, 0, "".join(told))

    def test_rules(self):
        self.shown(RULES)

    def test_factors(self):
        self.shown(FACTORS)

    def test_programs(self):
        self.shown(PROGRAMS)

    def test_meets(self):
        self.shown(MEETS)

    def test_farcells(self):
        self.shown(FARCELLS)

    def test_backward(self):
        self.shown(BACKWARD)

    def test_kernels(self):
        self.shown(KERNELS)

    def test_toldback(self):
        self.shown(TOLDBACK)

    def test_rounds(self):
        self.shown(ROUNDS)

    def test_rings(self):
        self.shown(RINGS)

    def test_walls(self):
        self.shown(WALLS)

    def test_keptsums(self):
        self.shown(KEPTSUMS)

    def test_liverow(self):
        self.shown(LIVEROW)

    def test_texts(self):
        self.shown(TEXTS)

    def test_desk(self):
        self.shown(DESK)
