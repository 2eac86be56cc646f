"""The printed forms of expressions and sources."""

from wardens.expressions import TIMED

# How strongly an expression holds together: an operand that holds together less strongly than its
# place asks for stands in parentheses.
EXPRESSION = 0
CHOICE = 1
UNION = 2
PAST = 3
PREFIX = 4
COMPARISON = 5
SUM = 6
PRODUCT = 7
NEGATION = 8
ATOM = 9

STRENGTHS = {
    "implies": EXPRESSION, "or": CHOICE, "and": UNION, "since": PAST,
    "not": PREFIX, "next": PREFIX, "allnext": PREFIX, "before": PREFIX,
    "can": PREFIX, "must": PREFIX, "once": PREFIX, "always": PREFIX,
    "compare": COMPARISON, "+": SUM, "-": SUM, "*": PRODUCT, "negative": NEGATION,
}
PREFIX_TEXTS = {"not": "not", "next": "next", "allnext": "all next", "before": "before"}
PAIR_TEXTS = {"least": "min", "greatest": "max"}


def print_expression(expression, *, whole):
    """Returns the printed form of an expression where an expression stands, or a sum if whole is False."""
    return operand_text(expression, EXPRESSION if whole else SUM)


def print_source(tree):
    """Returns the printed form of a source tree."""
    return "".join([item_text(item) + "\n" for item in tree])


def strength_of(tree):
    """Returns how strongly an expression holds together."""
    return STRENGTHS.get(tree[1] if tree[0] == "sum" else tree[0], ATOM)


def operand_text(tree, strength):
    """Returns the text of an expression, in parentheses where it has to hold together more strongly."""
    text = expression_text(tree)
    return f"({text})" if strength_of(tree) < strength else text


def expression_text(tree):
    """Returns the text of an expression without parentheses around it."""
    word = tree[0]
    if word == "number":
        return str(tree[1])
    if word == "name":
        return tree[1]
    if word == "dotted":
        return f"{tree[1]}.{tree[2]}"
    if word == "negative":
        return "-" + operand_text(tree[1], NEGATION)
    if word in PAIR_TEXTS:
        return f"{PAIR_TEXTS[word]}({operand_text(tree[1], EXPRESSION)}, {operand_text(tree[2], EXPRESSION)})"
    if word in PREFIX_TEXTS:
        return f"{PREFIX_TEXTS[word]} {operand_text(tree[1], PREFIX)}"
    if word in TIMED:
        limit = "" if tree[1] is None else f"[{tree[1]}]"
        return f"{word}{limit} {operand_text(tree[2], PREFIX)}"
    if word in STRENGTHS or word == "sum":
        return joined_text(tree)
    return word


def joined_text(tree):
    """Returns the text of two operands with an operator between them."""
    word, left, right = tree[-3:]
    strength = strength_of(tree)
    if tree[0] == "compare":
        return f"{operand_text(left, SUM)} {word} {operand_text(right, SUM)}"
    if word == "implies":
        return f"{operand_text(left, CHOICE)} implies {operand_text(right, EXPRESSION)}"
    return f"{operand_text(left, strength)} {word} {operand_text(right, strength + 1)}"


def sum_text(tree):
    """Returns the text of an expression where the grammar has a sum."""
    return operand_text(tree, SUM)


def item_text(item):
    """Returns the text of an item, without the newline at its end."""
    word, name = item[0], item[1]
    if word == "const":
        return f"const {name} = {sum_text(item[2])};"
    if word == "part":
        lines = [f"part {name} " + "{"] + ["  " + piece_text(piece) for piece in item[2]] + ["}"]
        return "\n".join(lines)
    if word == "sensor":
        error = "" if item[3] is None else f" +- {sum_text(item[3])}"
        lossy = " lossy" if item[4] else ""
        return f"sensor {name} = {sum_text(item[2])}{error}{lossy};"
    return f"{word} {name} = {operand_text(item[2], EXPRESSION)};"


def piece_text(piece):
    """Returns the text of a variable or a move."""
    if piece[0] == "var":
        _, name, least, greatest, first = piece
        return f"var {name} : {sum_text(least)}..{sum_text(greatest)}{first_text(first)};"
    if piece[0] == "cases":
        _, name, names, first = piece
        return f"var {name} : " + "{" + ", ".join(names) + "}" + f"{first_text(first)};"
    _, name, guard, changes = piece
    when = "" if guard is None else f" when {operand_text(guard, EXPRESSION)}"
    return f"move {name}{when}{changes_text(changes)};"


def first_text(first):
    """Returns the text of the first values of a variable, with the space before it."""
    if first is None:
        return ""
    low, high = first
    return f" from {span_text(low, high)}"


def changes_text(changes):
    """Returns the text of the changes of a move, with the space before it."""
    if len(changes) == 0:
        return ""
    return " do " + ", ".join([f"{name} := {span_text(low, high)}" for name, low, high in changes])


def span_text(low, high):
    """Returns the text of a span."""
    if high is None:
        return sum_text(low)
    return f"{sum_text(low)}..{sum_text(high)}"
