"""From the outline of a text without problems to the parts of a setup."""

from watchfloor.lines import EMPTY_VALUE
from watchfloor.outline import RULES, lines_under
from watchfloor.setup import setup

SETTINGS = ("group", "wait", "interval", "again", "mute", "by")
DEFAULT_SETTINGS = ((), 0, 5, 240, (), "")
DEFAULT_LOOKBACK = (5,)
DEFAULT_STORE = (0, 10, 2, 0)
DEFAULT_PAGER = (1, 0, 0)


def setup_of(outline):
    """Return the setup of an outline; raise BadSetup if its parts are none."""
    replicas, pause, down = numbers_given(outline, "pager", DEFAULT_PAGER)
    return setup(
        week=numbers_given(outline, "week", ())[0],
        people=[(line.words[1], int(line.words[2])) for line in heads_with(outline, "person")],
        schedules=[schedule_of_head(line) for line in heads_with(outline, "schedule")],
        policies=[policy_of_head(line) for line in heads_with(outline, "policy")],
        windows=[(line.words[1], spans_under(line)) for line in heads_with(outline, "window")],
        routes=routes_of(heads_with(outline, "route")),
        holdbacks=[holdback_of_head(line) for line in heads_with(outline, "holdback")],
        groups=[group_of_head(line) for line in heads_with(outline, "rules")],
        replicas=replicas,
        pause=pause,
        down=down,
        store=numbers_given(outline, "store", DEFAULT_STORE),
        lookback=numbers_given(outline, "lookback", DEFAULT_LOOKBACK)[0],
    )


def heads_with(outline, word):
    """Return the head lines with a first word."""
    return [line for line in outline.heads if line.words[0] == word]


def numbers_of(words):
    """Return the tuple of the numbers that words tell."""
    return tuple([int(word) for word in words])


def numbers_given(outline, word, otherwise):
    """Return the numbers of the head line with a first word, or others if there is no such line."""
    for line in heads_with(outline, word):
        return numbers_of(line.words[1:])
    return otherwise


def spans_under(line):
    """Return the spans that belong to a line."""
    return tuple([numbers_of(span.words[1:]) for span in lines_under(line, ("span",))])


def schedule_of_head(head):
    """Return the schedule of a head line."""
    layers = []
    for line in lines_under(head, ("layer",)):
        start, shift = numbers_of(line.words[1:3])
        layers.append((tuple(line.words[3:]), start, shift, spans_under(line)))
    standins = []
    for line in lines_under(head, ("standin",)):
        first, last = numbers_of(line.words[2:])
        standins.append((first, last, line.words[1]))
    return head.words[1], tuple(layers), tuple(standins)


def policy_of_head(head):
    """Return the policy of a head line."""
    levels = [(line.words[1], int(line.words[2])) for line in lines_under(head, ("ring",))]
    return head.words[1], tuple(levels)


def value_of_word(word):
    """Return the value that a word tells."""
    return "" if word == EMPTY_VALUE else word


def matchers_under(head, word):
    """Return the matchers of the lines with a first word that belong to a head line."""
    found = []
    for line in lines_under(head, (word,)):
        values = tuple([value_of_word(text) for text in line.words[3:]])
        found.append((line.words[1], values, line.words[2] == "in"))
    return tuple(found)


def routes_of(heads):
    """Return the list of the routes of their head lines."""
    routes = []
    for head in heads:
        parent = int(head.words[1]) if len(head.words) > 1 else None
        above = DEFAULT_SETTINGS
        if parent is not None and parent < len(routes):
            above = routes[parent][2]
        routes.append((parent, matchers_under(head, "match"), settings_under(head, above)))
    return routes


def settings_under(head, above):
    """Return the settings of a route whose other settings are those above."""
    found = list(above)
    for line in lines_under(head, SETTINGS):
        word = line.words[0]
        if word in ("group", "mute"):
            given = tuple(line.words[1:])
        else:
            given = line.words[1] if word == "by" else int(line.words[1])
        found[SETTINGS.index(word)] = given
    return tuple(found)


def holdback_of_head(head):
    """Return the holdback of a head line."""
    equal = [line.words[1:] for line in lines_under(head, ("equal",))]
    names = tuple(equal[0]) if equal else ()
    return matchers_under(head, "source"), matchers_under(head, "target"), names


def group_of_head(head):
    """Return the group of rules of a head line."""
    every, offset = numbers_of(head.words[2:])
    return head.words[1], every, offset, tuple([rule_of_line(line) for line in lines_under(head, RULES)])


def rule_of_line(line):
    """Return the rule of a line."""
    labels = sorted([(label.words[1], value_of_word(label.words[2])) for label in lines_under(line, ("label",))])
    expression = lines_under(line, ("expr",))[0].expression
    return (line.words[0], line.words[1], expression, tuple(labels)) + numbers_of(line.words[2:])
