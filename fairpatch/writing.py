"""Writing systems as lines of a text."""

COMPARING = {"less": "<", "same": "="}
STEP = "  "


def expression_text(expression):
    """An expression that stands by itself, as it is written."""
    if expression[0] == "num":
        return str(expression[1])
    if expression[0] == "name":
        return expression[1]
    sign, left, right = expression
    return f"{operand_text(left)} {sign} {operand_text(right)}"


def operand_text(expression):
    """A part of an expression, in brackets if it has parts itself."""
    if len(expression) == 3:
        return f"({expression_text(expression)})"
    return expression_text(expression)


def condition_text(condition):
    """A condition, as it is written."""
    kind = condition[0]
    if kind == "yes":
        return "yes"
    if kind == "not":
        return f"not [{condition_text(condition[1])}]"
    if kind in COMPARING:
        return f"{expression_text(condition[1])} {COMPARING[kind]} {expression_text(condition[2])}"
    return f"[{condition_text(condition[1])}] {kind} [{condition_text(condition[2])}]"


def body_lines(body, indent):
    """The lines of the statements of a body; those of the statements themselves begin with the indent."""
    lines = []
    for statement in body:
        lines.extend(statement_lines(statement, indent))
    return lines


def statement_lines(statement, indent):
    """The lines of a statement."""
    kind = statement[0]
    if kind == "set":
        return [f"{indent}set {statement[1]} = {expression_text(statement[2])}"]
    if kind == "draw":
        pairs = " ".join([f"{value} by {weight}" for value, weight in statement[2]])
        return [f"{indent}draw {statement[1]} {pairs}"]
    if kind == "call":
        return [f"{indent}call {statement[1]}"]
    if kind == "choose":
        heads = [f"{label} {{" for label, _ in statement[1]]
        return framed_lines("choose ", " or ", heads, [body for _, body in statement[1]], indent)
    head = f"{kind} {condition_text(statement[1])} {{"
    return framed_lines("", " ", [head, "else {"], list(statement[2:]), indent)


def framed_lines(before, between, heads, bodies, indent):
    """The lines of a statement with bodies, one line ahead of each body and one behind all of them."""
    lines = []
    lead = before
    for head, body in zip(heads, bodies):
        lines.append(f"{indent}{lead}{head}")
        lines.extend(body_lines(body, indent + STEP))
        lead = "}" + between
    lines.append(indent + "}")
    return lines


def unit_lines(unit, body):
    """The lines of a unit."""
    return [f"unit {unit} {{", *body_lines(body, STEP), "}"]


def system_lines(system):
    """The lines of a system."""
    names, units = system
    lines = [f"name {name} {size}" for name, size in names]
    for unit, body in units:
        lines.extend(unit_lines(unit, body))
    return lines
