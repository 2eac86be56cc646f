"""Reading the expressions of a source.

Each function takes what its rule of the grammar describes. Where it returns a pair, these are the
expression and its height. The height is counted while reading, since an expression that is too high
may be too high to be walked.
"""

DEEPEST = 12
HIGHEST = 30
PREFIXES = ("not", "next", "all", "before", "can", "must", "once", "always")
TIMED = ("can", "must", "once", "always")
COMPARISONS = ("<", "<=", "=", "!=", ">=", ">")
CALCULATIONS = ("+", "-", "*")
MINIMUM_AND_MAXIMUM = {"min": "least", "max": "greatest"}


def take_whole(cursor, *, whole):
    """Takes an expression, or a sum if whole is False, that stands directly in an item or a piece."""
    if whole:
        tree, height = take_expression(cursor, 0)
    else:
        tree, height = take_sum(cursor, 0)
    if height > HIGHEST:
        cursor.fault("too many operators")
    return tree


def level_below(cursor, level):
    """Returns the level that the next word begins."""
    if level == DEEPEST:
        cursor.fault("nested too deeply")
    return level + 1


def take_expression(cursor, level):
    """Takes a choice, and what it implies, if anything."""
    left, height = take_choice(cursor, level)
    if cursor.word_here() != "implies":
        return left, height
    below = level_below(cursor, level)
    cursor.take()
    right, other = take_expression(cursor, below)
    return ("implies", left, right), 1 + max(height, other)


def take_choice(cursor, level):
    """Takes unions with `or` between them."""
    return take_joined(cursor, level, ("or",), take_union)


def take_union(cursor, level):
    """Takes pasts with `and` between them."""
    return take_joined(cursor, level, ("and",), take_past)


def take_past(cursor, level):
    """Takes prefixes with `since` between them."""
    return take_joined(cursor, level, ("since",), take_prefix)


def take_joined(cursor, level, signs, take_operand):
    """Takes operands with any of the signs between them; they associate to the left."""
    tree, height = take_operand(cursor, level)
    while cursor.word_here() in signs:
        sign = cursor.take()
        right, other = take_operand(cursor, level)
        tree = ("sum", sign, tree, right) if sign in CALCULATIONS else (sign, tree, right)
        height = 1 + max(height, other)
    return tree, height


def take_prefix(cursor, level):
    """Takes a comparison, with any operators in front of it."""
    if cursor.word_here() not in PREFIXES:
        return take_comparison(cursor, level)
    below = level_below(cursor, level)
    word = cursor.take()
    if word == "all":
        cursor.take_only("next")
        word = "allnext"
    limit = take_limit(cursor) if word in TIMED else None
    operand, height = take_prefix(cursor, below)
    if word in TIMED:
        return (word, limit, operand), height + 1
    return (word, operand), height + 1


def take_limit(cursor):
    """Takes a number in brackets and returns it, or None if there are no brackets."""
    if not cursor.take_if("["):
        return None
    limit = cursor.take_number()
    cursor.take_only("]")
    return limit


def take_comparison(cursor, level):
    """Takes a sum, or two of them that are compared."""
    left, height = take_sum(cursor, level)
    if cursor.word_here() not in COMPARISONS:
        return left, height
    sign = cursor.take()
    right, other = take_sum(cursor, level)
    return ("compare", sign, left, right), 1 + max(height, other)


def take_sum(cursor, level):
    """Takes products with `+` and `-` between them."""
    return take_joined(cursor, level, ("+", "-"), take_product)


def take_product(cursor, level):
    """Takes negations with `*` between them."""
    return take_joined(cursor, level, ("*",), take_negation)


def take_negation(cursor, level):
    """Takes an atom, with any signs `-` in front of it."""
    if cursor.word_here() != "-":
        return take_atom(cursor, level)
    below = level_below(cursor, level)
    cursor.take()
    operand, height = take_negation(cursor, below)
    return ("negative", operand), height + 1


def take_atom(cursor, level):
    """Takes a leaf, a parenthesis, or `min` or `max` of two expressions."""
    word = cursor.word_here()
    if word == "(":
        below = level_below(cursor, level)
        cursor.take()
        tree, height = take_expression(cursor, below)
        cursor.take_only(")")
        return tree, height
    if word in MINIMUM_AND_MAXIMUM:
        return take_pair(cursor, level)
    return take_leaf(cursor), 0


def take_pair(cursor, level):
    """Takes `min` or `max` and its two operands."""
    below = level_below(cursor, level)
    word = cursor.take()
    cursor.take_only("(")
    left, height = take_expression(cursor, below)
    cursor.take_only(",")
    right, other = take_expression(cursor, below)
    cursor.take_only(")")
    return (MINIMUM_AND_MAXIMUM[word], left, right), 1 + max(height, other)


def take_leaf(cursor):
    """Takes a number, `true`, `false` or a name, and returns its expression."""
    if cursor.kind_here() == "number":
        return ("number", cursor.take_number())
    if cursor.word_here() in ("true", "false"):
        return (cursor.take(),)
    # Whatever else may begin an expression has been tried: a reserved word or a sign is a fault.
    if not cursor.name_is_here():
        cursor.fault("expected an expression")
    name = cursor.take_name()
    if cursor.take_if("."):
        return ("dotted", name, cursor.take_name())
    return ("name", name)
