"""The grammar of expressions: which token can follow the tokens before it.

A walk over tokens is always in one of the states below. From each of them the tokens can be
continued to an expression, so that a token that fits a state is never a dead end.
"""

from watchfloor.expressions import AGGREGATE_WORDS, OVER_WORDS, STRENGTHS

NEXT_STATES = {
    "operand": (("NUMBER", "operand_end"), ("-", "minus"), ("(", "operand"), ("NAME", "metric")),
    "minus": (("NUMBER", "operand_end"),),
    "metric": (("{", "first_label"),),
    "over_word": (("{", "first_label"), ("(", "range")),
    "aggregate_word": (("{", "first_label"), ("(", "operand"), ("by", "by")),
    "operand_end": (),
    "first_label": (("LABEL", "test"), ("}", "selector_end")),
    "label": (("LABEL", "test"),),
    "test": (("=", "value"), ("!=", "value"), ("in", "in"), ("not", "not")),
    "not": (("in", "in"),),
    "in": (("(", "values"),),
    "value": (("STRING", "matcher_end"),),
    "values": (("STRING", "value_end"),),
    "value_end": ((",", "values"), (")", "matcher_end")),
    "matcher_end": ((",", "label"), ("}", "selector_end")),
    "range": (("NAME", "range_metric"),),
    "range_metric": (("{", "first_label"), ("[", "span")),
    "range_selector": (("[", "span"),),
    "span": (("NUMBER", "span_end"),),
    "span_end": (("]", "range_end"),),
    "range_end": ((")", "operand_end"),),
    "by": (("(", "first_name"),),
    "first_name": (("NAME", "name_end"), (")", "inner")),
    "name": (("NAME", "name_end"),),
    "name_end": ((",", "name"), (")", "inner")),
    "inner": (("(", "operand"),),
}
OPERAND_ENDS = ("operand_end", "metric", "over_word", "aggregate_word")


class Walk:
    """Where the tokens of a text have led so far.

    `depth` counts the open round brackets around expressions; those of a function over a
    range and of lists are told by the state.
    """

    def __init__(self):
        self.state = "operand"
        self.depth = 0
        self.in_range = False

    def choices(self):
        """Return a dict of what can come next, as in point 19, with the states that it leads to."""
        found = dict(NEXT_STATES[self.state])
        if self.state in OPERAND_ENDS:
            for sign in STRENGTHS:
                found[sign] = "operand"
            found[")" if self.depth > 0 else "END"] = "operand_end"
        return found

    def take(self, token):
        """Go on by a token and return True, or return False if it cannot follow."""
        choices = self.choices()
        choice = choice_for(token, choices)
        if choice not in choices:
            return False
        self.note_brackets(choice, choices[choice])
        self.state = self.refined(token, choices[choice])
        return True

    def note_brackets(self, choice, state):
        """Note the round brackets that a choice, which leads to a state, opens or closes."""
        if choice == "(" and state == "operand":
            self.depth += 1
        if choice == ")" and self.state in OPERAND_ENDS:
            self.depth -= 1
        if state == "range":
            self.in_range = True
        if self.state == "range_end":
            self.in_range = False

    def refined(self, token, state):
        """Return the state itself, or the one that a word or a place in a range makes of it."""
        if state == "metric" and token[1] in OVER_WORDS:
            return "over_word"
        if state == "metric" and token[1] in AGGREGATE_WORDS:
            return "aggregate_word"
        if state == "selector_end":
            return "range_selector" if self.in_range else "operand_end"
        return state


def choice_for(token, choices):
    """Return that one of the choices which a token is, or one that is none of them."""
    kind, value, _ = token
    if kind == "number":
        return "NUMBER"
    if kind == "string":
        return "STRING"
    if kind == "symbol" or value in choices:
        return value
    if "LABEL" in choices and value != "metric":
        return "LABEL"
    return "NAME"


def walk_along(tokens):
    """Return the walk along tokens, and the first token that cannot follow, at which it ends, or None."""
    walk = Walk()
    for token in tokens:
        if not walk.take(token):
            return walk, token
    return walk, None
