"""What an expression means: its kind, its size, its bounds if it is a number, and its written-out form.

Where a scope is passed, it tells what names stand for (look_up and look_up_dotted), and its fault raises
SourceError with the problem of an expression.
"""

from wardens.expressions import TIMED

# Each kind but the first counts as each of those behind it.
NUMBER = 0
CONDITION = 1
FACT = 2
REQUIREMENT = 3

MOST_TICKS = 1000
LARGEST = 200
GREATEST = 1000000000

TERM_WORDS = {"negative": "neg", "least": "min", "greatest": "max", "+": "add", "-": "sub", "*": "mul"}
NUMBER_WORDS = ("negative", "sum", "least", "greatest")
FACT_WORDS = ("next", "allnext", "can", "must")
PAST_WORDS = ("before", "once", "always", "since")
WRITTEN_WITH_NOT = ("<=", "!=", ">=")
SIZES = {"<=": 2, "!=": 2, ">=": 2, "implies": 2, "allnext": 3, "always": 3}


class Meaning:
    """What an expression means.

    The form is of [18], of the kind of the expression. The attribute too_great tells whether some
    part that is a number can get too great. The bounds of what is no number mean nothing.
    """

    def __init__(self, kind, size, form, bounds, too_great):
        self.kind = kind
        self.size = size
        self.form = form
        self.bounds = bounds
        self.too_great = too_great


def number_meaning(number):
    """Returns the meaning of a number or a constant."""
    return Meaning(NUMBER, 1, ("num", number), (number, number), False)


def variable_meaning(variable, least, greatest):
    """Returns the meaning of the variable with this index and this range."""
    return Meaning(NUMBER, 1, ("var", variable), (least, greatest), False)


def checked_meaning(tree, scope):
    """Returns the meaning of an expression that stands in an item. Its problem is the scope's fault."""
    meaning = meaning_of(tree, scope)
    if meaning.size > LARGEST:
        scope.fault("too large")
    if meaning.too_great:
        scope.fault("a number can get too great")
    return meaning


def checked_number(tree, scope):
    """Returns the meaning of an expression in an item that has to be a number."""
    meaning = checked_meaning(tree, scope)
    if meaning.kind != NUMBER:
        scope.fault("expected a number")
    return meaning


def meaning_of(tree, scope):
    """Walks an expression, operands first, and returns its meaning."""
    word = tree[0]
    if word == "number":
        return number_meaning(tree[1])
    if word in ("true", "false"):
        return Meaning(CONDITION, 1, (word,), None, False)
    if word == "name":
        return scope.look_up(tree[1])
    if word == "dotted":
        return scope.look_up_dotted(tree[1], tree[2])
    operands = [meaning_of(operand, scope) for operand in tree[1:] if isinstance(operand, tuple)]
    check_operator(tree, operands, scope)
    return joined_meaning(tree, operands)


def check_operator(tree, operands, scope):
    """Finds the problem of an operator whose operands have none."""
    word = tree[0]
    if word in TIMED and tree[1] is not None and tree[1] > MOST_TICKS:
        scope.fault("too many ticks")
    for operand in operands:
        if word in NUMBER_WORDS or word == "compare":
            if operand.kind != NUMBER:
                scope.fault("expected a number")
        elif operand.kind == NUMBER:
            scope.fault("expected a condition")
        elif word in FACT_WORDS and operand.kind == REQUIREMENT:
            scope.fault("what was before cannot stand here")


def joined_meaning(tree, operands):
    """Returns the meaning of an operator with operands of the right kinds."""
    word = sign_of(tree)
    size = SIZES.get(word, 1) + sum([operand.size for operand in operands])
    too_great = any([operand.too_great for operand in operands])
    if tree[0] in NUMBER_WORDS:
        form = (TERM_WORDS[word],) + tuple([operand.form for operand in operands])
        low, high = bounds_of(form[0], [operand.bounds for operand in operands])
        too_great = too_great or low < -GREATEST or high > GREATEST
        return Meaning(NUMBER, size, form, (low, high), too_great)
    if tree[0] == "compare":
        form = comparison_form(word, operands[0].form, operands[1].form)
        return Meaning(CONDITION, size, form, None, too_great)
    kind = kind_of(word, operands)
    if word in FACT_WORDS or word in PAST_WORDS:
        form = time_form(tree, operands, kind)
    else:
        form = logic_form(word, operands, kind)
    return Meaning(kind, size, form, None, too_great)


def sign_of(tree):
    """Returns the sign of a sum or a comparison, and the word of any other expression."""
    return tree[1] if tree[0] in ("sum", "compare") else tree[0]


def kind_of(word, operands):
    """Returns the kind of an operator that is neither a number nor a comparison."""
    if word in FACT_WORDS:
        return FACT
    if word in PAST_WORDS:
        return REQUIREMENT
    return max([operand.kind for operand in operands])


def bounds_of(word, bounds):
    """Returns the bounds of a term from those of its operands."""
    low, high = bounds[0]
    if word == "neg":
        return -high, -low
    least, greatest = bounds[1]
    if word == "add":
        return low + least, high + greatest
    if word == "sub":
        return low - greatest, high - least
    if word == "min":
        return min(low, least), min(high, greatest)
    if word == "max":
        return max(low, least), max(high, greatest)
    products = [low * least, low * greatest, high * least, high * greatest]
    return min(products), max(products)


def comparison_form(sign, left, right):
    """Returns a comparison written out."""
    if sign in ("=", "!="):
        form = ("same", left, right)
    elif sign in ("<=", ">"):
        form = ("less", right, left)
    else:
        form = ("less", left, right)
    return ("not", form) if sign in WRITTEN_WITH_NOT else form


def logic_form(word, operands, kind):
    """Returns `not`, `and`, `or` or `implies` written out, its operands as parts of this kind."""
    forms = [form_as(kind, operand, operand.form) for operand in operands]
    if word == "implies":
        return ("or", form_as(kind, operands[0], ("not", operands[0].form)), forms[1])
    return (word,) + tuple(forms)


def time_form(tree, operands, kind):
    """Returns an operator about other ticks written out, its operands as parts of this kind."""
    word = tree[0]
    forms = [form_as(kind, operand, operand.form) for operand in operands]
    if word in ("next", "before", "since"):
        return (word,) + tuple(forms)
    refuted = form_as(kind, operands[0], ("not", operands[0].form))
    if word == "allnext":
        return ("not", ("next", refuted))
    if word == "always":
        return ("not", timed_form("once", tree[1], refuted))
    return timed_form(word, tree[1], forms[0])


def timed_form(word, limit, form):
    """Returns an operator with its number, or without one if there are no brackets."""
    return (word, form) if limit is None else (word + "in", limit, form)


def form_as(kind, operand, form):
    """Returns a form of the operand's kind as a part of a kind that it counts as."""
    if operand.kind == CONDITION and kind != CONDITION:
        form = ("holds", form)
    if operand.kind != REQUIREMENT and kind == REQUIREMENT:
        form = ("fact", form)
    return form
