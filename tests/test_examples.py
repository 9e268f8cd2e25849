"""The document's examples, as it writes them."""

import doctest
import unittest

RULES = """
>>> from nearadds.rules import behind, by_prime, plus, power, put_together, round_step, step
>>> both = (2, ((-1, 1), (1, 1)))
>>> [step(both, (2, ((0, 1),))), power(both, 2), behind(both, both) == power(both, 2), plus(both, both), round_step(both, (2, (1, 0, 0, 0)))]
[(2, ((-1, 1), (1, 1))), (2, ((-2, 1), (2, 1))), True, (2, ()), (2, (0, 1, 0, 1))]
>>> [by_prime((6, ((0, 2), (1, 3))), 2), by_prime((6, ((0, 2), (1, 3))), 3), put_together(6, [((1, 1),), ((0, 2),)])]
[((1, 1),), ((0, 2),), (6, ((0, 2), (1, 3)))]
"""

FACTORS = """
>>> from nearadds.factors import common, factored, is_factor, of_factors, order
>>> both, three = (2, ((-1, 1), (1, 1))), (2, ((-1, 1), (0, 1), (1, 1)))
>>> [factored(both), factored(three), order(2, (1, 1)), order(2, (1, 1, 1)), order(3, (1, 1)), is_factor(2, (1, 0, 1)), common(both, three)]
[[(2, -1, 1, (((1, 1), 2),))], [(2, -1, 1, (((1, 1, 1), 1),))], 1, 3, 2, False, [(1,)]]
>>> [factored((6, ((0, 3), (1, 3)))), of_factors(2, [(2, -1, 1, (((1, 1), 2),))])]
[[(2, 0, 1, (((1, 1), 1),)), (3,)], (2, ((-1, 1), (1, 1)))]
"""


class Examples(unittest.TestCase):

    def shown(self, text):
        told = []
        test = doctest.DocTestParser().get_doctest(text, {}, "examples", None, 0)
        result = doctest.DocTestRunner().run(test, out=told.append)
        self.assertGreater(result.attempted, 3)
        self.assertEqual(result.failed, 0, "".join(told))

    def test_rules(self):
        self.shown(RULES)

    def test_factors(self):
        self.shown(FACTORS)
