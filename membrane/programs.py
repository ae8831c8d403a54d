"""Programs: blocks, statements and expressions, and what is none (p1, p2)."""

from membrane.errors import BadProgram
from membrane.values import is_name, is_value

MOST_LEVELS = 8
MOST_BLOCKS = 6
MOST_STATEMENTS = 200
MOST_PARAMETERS = 4
MOST_ARGUMENTS = 4
MOST_PAIRS = 20
OPERATORS = ("+", "-", "*", "<", "==")

# What stands behind the word of an expression.
EXPRESSIONS = {
    "const": ("value",),
    "name": ("name",),
    "bin": ("operator", "expression", "expression"),
    "not": ("expression",),
    "choice": ("expression", "expression", "expression"),
    "object": ("pairs", "expression or ()"),
    "func": ("parameters", "block"),
    "get": ("expression", "name"),
    "has": ("expression", "name"),
    "names": ("expression",),
    "look": ("expression", "name"),
    "parent": ("expression",),
    "is_open": ("expression",),
    "kind": ("expression",),
    "call": ("expression", "arguments"),
    "send": ("expression", "name", "arguments"),
}

# What stands behind the word of a statement.
STATEMENTS = {
    "let": ("name", "expression"),
    "set": ("name", "expression"),
    "put": ("expression", "name", "expression"),
    "drop": ("expression", "name"),
    "fix": ("expression", "name"),
    "close": ("expression",),
    "ask": ("expression", "name", "expression", "expression"),
    "if": ("expression", "block", "block or ()"),
    "while": ("expression", "block"),
    "try": ("block", "name", "block"),
    "raise": ("expression",),
    "return": ("expression",),
    "do": ("expression",),
    "print": ("expression",),
}


def check_block(block):
    """None for a block; for anything else BadProgram is raised."""
    # A list of what is still to be checked, and no nested calls: a program may be nested deeply.
    waiting = [("block", block, 0, 0)]
    while waiting:
        what, thing, blocks, level = waiting.pop()
        action = CHECKS[what]
        waiting.extend(action(thing, blocks, level))


def need(holds):
    """Raises BadProgram if something does not hold that holds in every program."""
    if not holds:
        raise BadProgram()


def is_tuple_of(thing, least, most):
    """True for a tuple of at least and at most so many items."""
    return isinstance(thing, tuple) and least <= len(thing) <= most


def are_unlike_names(names):
    """True if each of the list is a name that stands there once."""
    return all(is_name(x) for x in names) and len(set(names)) == len(names)


# The checks take the same arguments, so that one table can hold them: a part of a program, how many blocks are
# around it and the level of the expression that it is a part of, 0 for a part of a statement. They return what
# is to be checked in it, likewise with the word of its check ahead.


def check_statements(thing, blocks, level):
    need(is_tuple_of(thing, 1, MOST_STATEMENTS) and blocks < MOST_BLOCKS)
    return [("statement", statement, blocks + 1, 0) for statement in thing]


def check_statements_or_none(thing, blocks, level):
    if thing == ():
        return []
    return check_statements(thing, blocks, level)


def check_statement(thing, blocks, level):
    return parts_by_shape(thing, STATEMENTS.get(word_of(thing)), blocks, 0)


def check_expression(thing, blocks, level):
    need(level < MOST_LEVELS)
    return parts_by_shape(thing, EXPRESSIONS.get(word_of(thing)), blocks, level + 1)


def check_expression_or_none(thing, blocks, level):
    if thing == ():
        return []
    return check_expression(thing, blocks, level)


def word_of(thing):
    """The word with which an expression, a statement and the like begins, empty for what has none."""
    if isinstance(thing, tuple) and len(thing) > 0 and isinstance(thing[0], str):
        return thing[0]
    return ""


def parts_by_shape(thing, shape, blocks, level):
    """What is to be checked in an expression or a statement; shape is None if there is none of its word."""
    need(shape is not None and len(thing) == len(shape) + 1)
    return [(what, part, blocks, level) for what, part in zip(shape, thing[1:])]


def check_arguments(thing, blocks, level):
    need(is_tuple_of(thing, 0, MOST_ARGUMENTS))
    return [("expression", part, blocks, level) for part in thing]


def check_pairs(thing, blocks, level):
    need(is_tuple_of(thing, 0, MOST_PAIRS))
    need(all(is_tuple_of(pair, 2, 2) for pair in thing))
    need(are_unlike_names([pair[0] for pair in thing]))
    return [("expression", pair[1], blocks, level) for pair in thing]


def check_parameters(thing, blocks, level):
    need(is_tuple_of(thing, 0, MOST_PARAMETERS) and are_unlike_names(list(thing)))
    return []


def check_name(thing, blocks, level):
    need(is_name(thing))
    return []


def check_value(thing, blocks, level):
    need(is_value(thing))
    return []


def check_operator(thing, blocks, level):
    need(thing in OPERATORS)
    return []


CHECKS = {
    "block": check_statements,
    "block or ()": check_statements_or_none,
    "statement": check_statement,
    "expression": check_expression,
    "expression or ()": check_expression_or_none,
    "arguments": check_arguments,
    "pairs": check_pairs,
    "parameters": check_parameters,
    "name": check_name,
    "value": check_value,
    "operator": check_operator,
}
