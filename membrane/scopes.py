"""Scopes of a heap and their variables."""

NOWHERE = -1

# The scope of a module at the beginning.
MODULE = ("scope", (("me", ("none",)),), -1)


def has_variable(scope, x):
    """True if the scope itself has the variable x."""
    return x in [name for name, _ in scope[1]]


def variable(scope, x):
    """The value of the variable x, which the scope itself has."""
    values = [value for name, value in scope[1] if name == x]
    return values[0]


def scope_with(heap, env, x):
    """The number of the nearest scope that has the variable x, the scope env first, or NOWHERE."""
    k = env
    while k != NOWHERE and not has_variable(heap[k], x):
        k = heap[k][2]
    return k


def let_variable(heap, k, x, value):
    """The variable x of the scope k becomes the value, in its place if it is there, otherwise at the end."""
    _, variables, around = heap[k]
    if has_variable(heap[k], x):
        variables = tuple([(name, value if name == x else old) for name, old in variables])
    else:
        variables = variables + ((x, value),)
    heap[k] = ("scope", variables, around)
