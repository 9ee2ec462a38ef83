"""What several tests need."""

import unittest


class WatchTest(unittest.TestCase):
    """A test case that knows how calls are refused."""

    def refused(self, error, told, call, *arguments, **keywords):
        """Check that a call raises just this error, with these attributes, and changes nothing."""
        before = repr((arguments, keywords))
        with self.assertRaises(error) as caught:
            call(*arguments, **keywords)
        self.assertIs(type(caught.exception), error)
        for name in told:
            self.assertEqual(getattr(caught.exception, name), told[name], (name, arguments, keywords))
        self.assertEqual(repr((arguments, keywords)), before)

    def gives(self, result, call, *arguments):
        """Check that a call returns just this, equal in kind too, and changes nothing."""
        before = repr(arguments)
        found = call(*arguments)
        self.assertEqual(found, result, arguments)
        self.assertEqual(repr(found), repr(result), arguments)
        self.assertEqual(repr(arguments), before)


RANGE_WORDS = ("sum_over", "min_over", "max_over", "count_over", "last_over", "increase")
AGGREGATE_WORDS = ("sum", "min", "max", "count")
LEVELS = (("or",), ("and", "unless"), ("<", "<=", ">", ">=", "==", "!="), ("+", "-"), ("*",))
SIGNS = [sign for level in LEVELS for sign in level]
WORDS = RANGE_WORDS + AGGREGATE_WORDS + ("or", "and", "unless", "by", "in", "not", "a", "b_1", "job")


def random_vector(chance, operators, selectors):
    """Return an expression of the kind vector with at most so many operators and selectors."""
    if operators == 0 or chance.random() < 0.2:
        return random_selector(chance)
    if selectors == 1 or chance.random() < 0.25:
        names = tuple(chance.choice(WORDS + ("metric",)) for _ in range(chance.choice((0, 1, 2, 6))))
        inner = random_vector(chance, operators - 1, selectors)
        return ("aggregate", chance.choice(AGGREGATE_WORDS), names, inner)
    many = chance.randint(0, operators - 1)
    left = random_vector(chance, many, selectors // 2)
    if chance.random() < 0.6:
        return ("binary", chance.choice(SIGNS), left, random_vector(chance, operators - 1 - many, selectors // 2))
    number = random_number(chance, operators - 1 - many)
    sides = chance.sample([left, number], 2)
    return ("binary", chance.choice(SIGNS[3:]), sides[0], sides[1])


def random_number(chance, operators):
    """Return an expression of the kind number with at most so many operators."""
    if operators == 0 or chance.random() < 0.4:
        return ("number", chance.choice((0, 1, -1, 25, -7, 10 ** 15 - 1, 1 - 10 ** 15)))
    many = chance.randint(0, operators - 1)
    left = random_number(chance, many)
    return ("binary", chance.choice(("+", "-", "*")), left, random_number(chance, operators - 1 - many))


def random_selector(chance):
    """Return a selector."""
    matchers = []
    for _ in range(chance.choice((0, 0, 1, 2))):
        values = tuple(chance.choice(("", "x", "1_", "or")) for _ in range(chance.choice((1, 1, 2, 6))))
        matchers.append((chance.choice(WORDS), values, chance.random() < 0.5))
    metric = chance.choice(WORDS + ("metric",))
    if chance.random() < 0.5:
        return ("latest", metric, tuple(matchers))
    return ("over", chance.choice(RANGE_WORDS), metric, tuple(matchers), chance.randint(1, 1000))


def small_view(chance, many):
    """Return a view of at most so many samples of few series, at times from 0 to 12."""
    samples = {}
    for _ in range(chance.randint(0, many)):
        pairs = [("metric", chance.choice(("up", "load")))]
        pairs += [pair for pair in (("job", chance.choice("ab")), ("zone", chance.choice("xy"))) if chance.random() < 0.7]
        samples[tuple(sorted(pairs)), chance.randint(0, 12)] = chance.randint(-3, 9)
    return [(labels, time, samples[labels, time]) for labels, time in sorted(samples)]


def small_expression(chance, operators):
    """Return an expression of some kind, with at most so many operators, over what small views have."""
    if operators > 0 and chance.random() < 0.15:
        return random_number(chance, operators)
    return small_vector(chance, operators)


def small_vector(chance, operators):
    """Return an expression of the kind vector, with at most so many operators, over what small views have."""
    if operators == 0 or chance.random() < 0.2:
        matchers = [("job", (chance.choice(("a", "b", "")),), chance.random() < 0.5), ("zone", ("x", ""), chance.random() < 0.5)]
        matchers = tuple(matcher for matcher in matchers if chance.random() < 0.3)
        metric = chance.choice(("up", "load"))
        if chance.random() < 0.5:
            return ("latest", metric, matchers)
        return ("over", chance.choice(RANGE_WORDS), metric, matchers, chance.randint(1, 8))
    if chance.random() < 0.35:
        names = chance.choice(((), ("job",), ("zone",), ("job", "zone"), ("metric", "job")))
        return ("aggregate", chance.choice(AGGREGATE_WORDS), names, small_vector(chance, operators - 1))
    many = chance.randint(0, operators - 1)
    left, right = small_vector(chance, many), small_vector(chance, operators - 1 - many)
    if chance.random() < 0.3:
        sides = chance.sample([left, ("number", chance.randint(-3, 9))], 2)
        return ("binary", chance.choice(SIGNS[3:]), sides[0], sides[1])
    return ("binary", chance.choice(SIGNS), left, right)


def done(store, deed):
    """Do a deed to a store, and return what the store returns."""
    return getattr(store, deed[0])(*deed[1:])


def small_deed(chance, time):
    """Return a deed of a store whose samples are about as late as a time."""
    word = chance.choice(("append",) * 6 + ("sync", "seal", "compact", "retain"))
    if word == "append":
        samples = []
        for _ in range(chance.randint(0, 4)):
            labels = chance.choice(((), (("metric", "up"),), (("job", "a"), ("metric", "up"))))
            samples.append((labels, max(0, time + chance.randint(-14, 6)), chance.randint(0, 2)))
        return ("append", samples)
    if word == "retain":
        return ("retain", max(0, time + chance.randint(-40, 8)))
    return (word,)


def small_store(chance):
    """Return the settings of a store with narrow spans."""
    return chance.choice((0, 1, 3, 7, 20)), chance.choice((1, 2, 5)), chance.choice((2, 3)), chance.choice((0, 1, 2, 3))
