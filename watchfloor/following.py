"""What can follow a text of an expression."""

from watchfloor.grammar import walk_along
from watchfloor.tokens import scan


def expected(text):
    """Return the list of what can follow a text, or None if the text has a fault so far."""
    found, fault = scan(text)
    walk, wrong = walk_along(found)
    if fault is not None or wrong is not None:
        return None
    return sorted(walk.choices())
