"""What expressions and conditions mean where the names have values."""


def number_of(expression, values):
    """The integer that an expression is, with a dict of the values of the names."""
    kind = expression[0]
    if kind == "num":
        return expression[1]
    if kind == "name":
        return values[expression[1]]
    left = number_of(expression[1], values)
    right = number_of(expression[2], values)
    if kind == "+":
        return left + right
    if kind == "-":
        return left - right
    return left * right


def holds(condition, values):
    """Whether a condition holds, with a dict of the values of the names."""
    kind = condition[0]
    if kind == "yes":
        return True
    if kind == "less":
        return number_of(condition[1], values) < number_of(condition[2], values)
    if kind == "same":
        return number_of(condition[1], values) == number_of(condition[2], values)
    if kind == "not":
        return not holds(condition[1], values)
    if kind == "and":
        return holds(condition[1], values) and holds(condition[2], values)
    return holds(condition[1], values) or holds(condition[2], values)
