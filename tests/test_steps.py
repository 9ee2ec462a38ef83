"""Point 18: the steps of an expression, and the expression made of them."""

import random
import unittest

from tests.support import SIGNS, WatchTest, random_number, random_vector
from watchfloor.errors import BadSteps
from watchfloor.steps import from_steps, steps_of

ONE, TWO = ("number", 1), ("number", -2)
LATEST = ("latest", "up", (("job", ("web", ""), False),))
OVER = ("over", "increase", "load", (("job", ("web",), True),), 5)
BINARY, AGGREGATE = ("binary", "+"), ("aggregate", "sum", ("x", "y"))


class StepsTest(WatchTest):

    def both(self, expression, steps):
        self.gives(steps, steps_of, expression)
        self.gives(expression, from_steps, steps)


class ThereAndBackTest(StepsTest):

    def test_operands(self):
        for operand in (ONE, TWO, LATEST, OVER):
            self.both(operand, [operand])

    def test_operators(self):
        for sign in SIGNS:
            self.both(("binary", sign, LATEST, OVER), [LATEST, OVER, ("binary", sign)])
        for word in ("sum", "min", "max", "count"):
            for names in ((), ("x",), ("y", "x", "x")):
                self.both(("aggregate", word, names, LATEST), [LATEST, ("aggregate", word, names)])

    def test_order(self):
        left, right = ("binary", "-", ONE, TWO), ("binary", "*", LATEST, OVER)
        self.both(("binary", "<", left, right),
                  [ONE, TWO, ("binary", "-"), LATEST, OVER, ("binary", "*"), ("binary", "<")])
        self.both(("binary", "<", ("binary", "<", left, right), ONE),
                  [ONE, TWO, ("binary", "-"), LATEST, OVER, ("binary", "*"), ("binary", "<"), ONE, ("binary", "<")])
        self.both(("binary", "-", ONE, ("binary", "-", TWO, left)),
                  [ONE, TWO, ONE, TWO, ("binary", "-"), ("binary", "-"), ("binary", "-")])
        self.both(("aggregate", "sum", ("x", "y"), ("binary", "or", ("aggregate", "min", (), LATEST), OVER)),
                  [LATEST, ("aggregate", "min", ()), OVER, ("binary", "or"), AGGREGATE])

    def test_expressions_without_a_kind(self):
        self.both(("aggregate", "sum", ("x", "y"), ONE), [ONE, AGGREGATE])
        self.both(("binary", "and", ONE, LATEST), [ONE, LATEST, ("binary", "and")])

    def test_random_expressions(self):
        for seed in range(100):
            chance = random.Random(seed)
            for expression in (random_vector(chance, 8, 6), random_number(chance, 8)):
                steps = steps_of(expression)
                self.assertEqual(from_steps(steps), expression)
                self.assertEqual(steps_of(from_steps(steps)), steps)

    def test_results_are_new(self):
        expression = ("aggregate", "sum", ("x", "y"), LATEST)
        steps = steps_of(expression)
        steps.clear()
        self.gives([LATEST, AGGREGATE], steps_of, expression)


class FaultsTest(StepsTest):

    def refused_at(self, place, *steps):
        self.refused(BadSteps, {"place": place}, from_steps, list(steps))

    def test_binary_finds_too_few(self):
        self.refused_at(0, BINARY)
        self.refused_at(1, ONE, BINARY)
        self.refused_at(0, BINARY, ONE, TWO)
        self.refused_at(3, ONE, TWO, BINARY, BINARY)
        self.refused_at(2, ONE, AGGREGATE, BINARY)

    def test_aggregate_finds_too_few(self):
        self.refused_at(0, AGGREGATE)
        self.refused_at(0, AGGREGATE, LATEST)
        self.refused_at(0, AGGREGATE, BINARY)

    def test_first_one_is_told(self):
        self.refused_at(1, ONE, BINARY, BINARY, AGGREGATE)
        self.refused_at(1, ONE, BINARY, ONE, ONE)

    def test_not_exactly_one_left(self):
        self.refused_at(0)
        self.refused_at(2, ONE, TWO)
        self.refused_at(3, ONE, TWO, AGGREGATE)
        self.refused_at(4, ONE, TWO, LATEST, BINARY)
        self.refused_at(6, ONE, TWO, BINARY, LATEST, OVER, BINARY)
        self.refused_at(3, LATEST, LATEST, LATEST)


if __name__ == "__main__":
    unittest.main()
