"""Reading a source: its tree, and the positions of its items."""

from wardens.cursor import Cursor
from wardens.expressions import take_whole


def parse(text):
    """Returns the pair (tree, places) of a source. Raises SourceError with its first fault."""
    cursor = Cursor(text)
    items = []
    places = []
    while cursor.kind_here() != "end":
        places.append(cursor.place_here())
        items.append(take_item(cursor))
    return tuple(items), tuple(places)


def parse_expression(text, *, whole):
    """Returns the expression, or the sum if whole is False, that a text is. Raises SourceError."""
    cursor = Cursor(text)
    tree = take_whole(cursor, whole=whole)
    if cursor.kind_here() != "end":
        cursor.fault("expected the end")
    return tree


def take_item(cursor):
    """Takes an item."""
    if cursor.take_if("const"):
        return take_const(cursor)
    if cursor.take_if("part"):
        return take_part(cursor)
    if cursor.take_if("sensor"):
        return take_sensor(cursor)
    if cursor.take_if("define"):
        return take_named("define", cursor)
    if cursor.take_if("require"):
        return take_named("require", cursor)
    cursor.fault("expected const, part, sensor, define or require")


def take_const(cursor):
    """Takes a constant, behind its first word."""
    name = cursor.take_name()
    cursor.take_only("=")
    value = take_whole(cursor, whole=False)
    cursor.take_only(";")
    return ("const", name, value)


def take_named(word, cursor):
    """Takes a definition or a requirement, behind its first word."""
    name = cursor.take_name()
    cursor.take_only("=")
    value = take_whole(cursor, whole=True)
    cursor.take_only(";")
    return (word, name, value)


def take_sensor(cursor):
    """Takes a sensor, behind its first word."""
    name = cursor.take_name()
    cursor.take_only("=")
    value = take_whole(cursor, whole=False)
    error = take_whole(cursor, whole=False) if cursor.take_if("+-") else None
    lossy = cursor.take_if("lossy")
    cursor.take_only(";")
    return ("sensor", name, value, error, lossy)


def take_part(cursor):
    """Takes a part, behind its first word."""
    name = cursor.take_name()
    cursor.take_only("{")
    pieces = []
    while not cursor.take_if("}"):
        pieces.append(take_piece(cursor))
    return ("part", name, tuple(pieces))


def take_piece(cursor):
    """Takes a variable or a move."""
    if cursor.take_if("var"):
        return take_variable(cursor)
    if cursor.take_if("move"):
        return take_move(cursor)
    cursor.fault("expected var, move or }")


def take_variable(cursor):
    """Takes a variable, behind its first word."""
    name = cursor.take_name()
    cursor.take_only(":")
    if cursor.take_if("{"):
        names = take_values(cursor)
        return ("cases", name, names, take_first(cursor))
    least = take_whole(cursor, whole=False)
    cursor.take_only("..")
    greatest = take_whole(cursor, whole=False)
    return ("var", name, least, greatest, take_first(cursor))


def take_values(cursor):
    """Takes the names of a variable's values, behind the opening brace."""
    names = [cursor.take_name()]
    while cursor.take_if(","):
        names.append(cursor.take_name())
    cursor.take_only("}")
    return tuple(names)


def take_first(cursor):
    """Takes the rest of a variable, and returns the span of its first values or None."""
    first = take_span(cursor) if cursor.take_if("from") else None
    cursor.take_only(";")
    return first


def take_span(cursor):
    """Takes a span."""
    low = take_whole(cursor, whole=False)
    high = take_whole(cursor, whole=False) if cursor.take_if("..") else None
    return (low, high)


def take_move(cursor):
    """Takes a move, behind its first word."""
    name = cursor.take_name()
    guard = take_whole(cursor, whole=True) if cursor.take_if("when") else None
    changes = []
    if cursor.take_if("do"):
        changes.append(take_change(cursor))
        while cursor.take_if(","):
            changes.append(take_change(cursor))
    cursor.take_only(";")
    return ("move", name, guard, tuple(changes))


def take_change(cursor):
    """Takes what a move sets one variable to."""
    name = cursor.take_name()
    cursor.take_only(":=")
    low, high = take_span(cursor)
    return (name, low, high)
