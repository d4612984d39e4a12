"""Equations modulo a number, which histories (promise 22) rest on, against all lists of numbers gone through."""

import itertools
import random
import unittest

from hushweb.triangles import contradiction, solution, solutions, triangle
from tests import helpers


def random_equations(rng, modulus, unknowns, many):
    """Equations that have a solution, or with one turned, or with any sums; many factors are no units."""
    right = [rng.randrange(modulus) for _ in range(unknowns)]
    kind = rng.randrange(3)
    out = {}
    for at in range(many):
        factors = [rng.choice([0, 0, 1, -1, 2, 3, modulus // 2, rng.randrange(-3 * modulus, 3 * modulus)]) for _ in right]
        total = sum(factor * number for factor, number in zip(factors, right))
        if kind == 1 and at == many - 1:
            total += rng.randrange(1, modulus)
        if kind == 2:
            total = rng.randrange(-modulus, 2 * modulus)
        out[("key", at)] = factors + [total]
    return out


def holds(equation, numbers, modulus):
    *factors, total = equation
    return (sum(factor * number for factor, number in zip(factors, numbers)) - total) % modulus == 0


class Triangles(unittest.TestCase):
    def check(self, equations, unknowns, modulus, right=None):
        before = helpers.frozen(equations)
        rows = triangle(equations, unknowns + 1, modulus)
        self.assertEqual(helpers.frozen(equations), before)
        sources = contradiction(rows)
        if right is not None:
            self.assertEqual(sources is None, right > 0)
        if sources is None:
            found = solution(rows, modulus)
            self.assertEqual(len(found), unknowns)
            self.assertTrue(all(type(number) is int and number in range(modulus) for number in found))
            self.assertTrue(all(holds(equation, found, modulus) for equation in equations.values()))
            if right is not None:
                self.assertEqual(solutions(rows, modulus), right)
            return True
        total = [sum(times * equations[key][at] for key, times in sources.items()) % modulus for at in range(unknowns + 1)]
        self.assertEqual(total[:-1], [0] * unknowns)
        self.assertNotEqual(total[-1], 0)
        self.assertTrue(all(times in range(1, modulus) for times in sources.values()))
        return False

    def test_against_all_numbers(self):
        rng = random.Random("triangles")
        told, many_of = [], set()
        for at in range(1500):
            modulus = rng.choice([2, 3, 4, 6, 8, 9, 12])
            unknowns = rng.randrange(0, 4 if modulus > 6 else 5)
            equations = random_equations(rng, modulus, unknowns, rng.randrange(0, 7))
            right = sum(all(holds(equation, numbers, modulus) for equation in equations.values())
                        for numbers in itertools.product(range(modulus), repeat=unknowns))
            told.append(self.check(equations, unknowns, modulus, right))
            many_of.add((modulus, right))
        self.assertGreater(min(told.count(True), told.count(False)), 300)
        for pair in [(4, 2), (6, 2), (6, 3), (8, 2), (8, 4), (12, 6), (9, 3), (12, 3)]:
            self.assertIn(pair, many_of)

    def test_large_ones(self):
        rng = random.Random("large triangles")
        told = []
        for _ in range(120):
            modulus = rng.choice([30, 36, 60, 64, 72, 96, 97, 100])
            unknowns = rng.randrange(1, 13)
            told.append(self.check(random_equations(rng, modulus, unknowns, rng.randrange(1, 20)), unknowns, modulus))
        self.assertGreater(min(told.count(True), told.count(False)), 30)

    def test_no_equations(self):
        for modulus, unknowns in [(2, 0), (100, 0), (7, 3)]:
            rows = triangle({}, unknowns + 1, modulus)
            self.assertIsNone(contradiction(rows))
            self.assertEqual((solution(rows, modulus), solutions(rows, modulus)), ([0] * unknowns, modulus ** unknowns))


if __name__ == "__main__":
    unittest.main()
