"""The values of terms, and the truth of conditions."""


def value_of(term, values):
    """Returns the value of a term, an integer."""
    word = term[0]
    if word == "num":
        return term[1]
    if word == "var":
        return values[term[1]]
    left = value_of(term[1], values)
    if word == "neg":
        return -left
    right = value_of(term[2], values)
    if word == "add":
        return left + right
    if word == "sub":
        return left - right
    if word == "mul":
        return left * right
    if word == "min":
        return min(left, right)
    return max(left, right)


def is_true(condition, values):
    """Returns True if a condition holds for the values, otherwise False."""
    word = condition[0]
    if word == "true":
        return True
    if word == "false":
        return False
    if word == "less":
        return value_of(condition[1], values) < value_of(condition[2], values)
    if word == "same":
        return value_of(condition[1], values) == value_of(condition[2], values)
    if word == "not":
        return not is_true(condition[1], values)
    if word == "and":
        return is_true(condition[1], values) and is_true(condition[2], values)
    return is_true(condition[1], values) or is_true(condition[2], values)
