"""The problems of declaration, and what items without one declare."""

from wardens.meanings import checked_number, number_meaning, variable_meaning
from wardens.scopes import Scope

MOST_NAMES = 100
MOST_PARTS = 8
MOST_VARIABLES = 12
MOST_VALUES = 20


def declare(draft, item, position):
    """Adds what an item declares to a draft, or raises SourceError with its problem of declaration."""
    scope = Scope(position, draft.constants)
    word, name = item[0], item[1]
    if len(draft.names) > MOST_NAMES:
        scope.fault("too many names")
    if name in draft.names:
        scope.fault(f"declared twice: {name}")
    if word == "const":
        draft.constants[name] = number_meaning(constant_value(item[2], scope))
    if word == "part":
        declare_part(draft, item, position)
    draft.names[name] = True


def constant_value(tree, scope):
    """Returns the value of an expression in which only constants count."""
    least, _ = checked_number(tree, scope).bounds
    return least


def declare_part(draft, item, position):
    """Adds the variables and the named values of a part to a draft."""
    _, part, pieces = item
    outline = Outline(draft, part, position)
    if len(draft.parts) >= MOST_PARTS:
        outline.scope.fault("too many parts")
    for piece in pieces:
        if piece[0] != "move":
            outline.declare_variable(piece)
    if len(draft.variables) + len(outline.rows) > MOST_VARIABLES:
        outline.scope.fault("too many variables")
    draft.names = outline.names
    draft.constants = outline.constants
    draft.parts[part] = outline.meanings
    draft.variables = draft.variables + outline.rows


class Outline:
    """The variables of one part.

    Names and constants are copies with those of the part: a part with a problem declares nothing.
    """

    def __init__(self, draft, part, position):
        self.part = part
        self.names = dict(draft.names)
        self.names[part] = True
        self.constants = dict(draft.constants)
        self.scope = Scope(position, self.constants)
        self.before = len(draft.variables)
        self.rows = []
        self.meanings = {}

    def declare_variable(self, piece):
        """Adds a variable."""
        name = piece[1]
        if name in self.meanings:
            self.scope.fault(f"declared twice: {name}")
        if piece[0] == "var":
            least, greatest, first, last = self.range_of(piece)
        else:
            least, greatest, first, last = self.range_of_values(piece)
        if not least <= first <= last <= greatest:
            self.scope.fault(f"wrong first values: {name}")
        self.meanings[name] = variable_meaning(self.before + len(self.rows), least, greatest)
        self.rows.append((f"{self.part}.{name}", least, greatest, first, last))

    def range_of(self, piece):
        """Returns the least and the greatest value of a range, and the first and the last first value."""
        _, name, low, high, span = piece
        least = constant_value(low, self.scope)
        greatest = constant_value(high, self.scope)
        first, last = self.first_values(span, least, greatest)
        if greatest < least:
            self.scope.fault(f"empty range: {name}")
        return least, greatest, first, last

    def range_of_values(self, piece):
        """Adds named values, and returns the same numbers for them."""
        _, name, values, span = piece
        if len(values) > MOST_VALUES:
            self.scope.fault(f"too many values: {name}")
        for number, value in enumerate(values):
            if value in self.names:
                self.scope.fault(f"declared twice: {value}")
            self.names[value] = True
            self.constants[value] = number_meaning(number)
        first, last = self.first_values(span, 0, len(values) - 1)
        return 0, len(values) - 1, first, last

    def first_values(self, span, least, greatest):
        """Returns the first and the last value of a span, or the least and the greatest one without it."""
        if span is None:
            return least, greatest
        low, high = span
        first = constant_value(low, self.scope)
        last = first if high is None else constant_value(high, self.scope)
        return first, last
