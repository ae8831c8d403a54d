"""Values, and what can be told of them without an operation."""

NONE = ("none",)
REVOKER = ("revoker",)
INTEGER_BOUND = 2 ** 64
LONGEST_TEXT = 200
LONGEST_NAME = 8
PERCENT_SIGN = 37


def is_value(v):
    """True for a value that is neither a ref nor a far, False for anything else."""
    if not isinstance(v, tuple):
        return False
    if v == NONE or v == REVOKER:
        return True
    if len(v) != 2:
        return False
    tag, part = v
    if tag == "bool":
        return isinstance(part, bool)
    if tag == "int":
        return is_whole_number(part) and fits_integer(part)
    if tag == "text":
        return isinstance(part, str) and fits_text(part) and all(is_character(c) for c in part)
    return False


def is_whole_number(n):
    """True for an integer."""
    # For Python, but not here, True and False are integers.
    return isinstance(n, int) and not isinstance(n, bool)


def fits_integer(n):
    """True if the integer is small enough for a value."""
    return abs(n) < INTEGER_BOUND


def fits_text(s):
    """True if the text is short enough for a value."""
    return len(s) <= LONGEST_TEXT


def is_character(c):
    """True if the character may stand in a text."""
    return c == "\n" or (" " <= c <= "~" and ord(c) != PERCENT_SIGN)


def is_name(x):
    """True for a name."""
    return isinstance(x, str) and 1 <= len(x) <= LONGEST_NAME and all("a" <= c <= "z" for c in x)


def truth(v):
    """True or False, as a test takes the value."""
    return v not in (NONE, ("bool", False), ("int", 0), ("text", ""))


def kind(heap, v):
    """The kind of a value, a string; the heap is the one that a ref is about."""
    if v[0] == "ref":
        return "function" if heap[v[1]][0] == "func" else "object"
    if v[0] == "far":
        return v[2]
    return v[0]


def text_of(heap, v):
    """The text of a value, a string; the heap is the one that a ref is about."""
    if v == NONE:
        return "None"
    if v[0] == "text":
        return v[1]
    if v[0] == "bool" or v[0] == "int":
        return str(v[1])
    return f"<{kind(heap, v)}>"


def combined(op, a, b):
    """What the operator gives for two values: ("value", v) or ("raise", words)."""
    if op == "==":
        return ("value", ("bool", a == b))
    if a[0] == "int" and b[0] == "int":
        return combined_integers(op, a[1], b[1])
    if a[0] == "text" and b[0] == "text":
        return combined_texts(op, a[1], b[1])
    return ("raise", "wrong kind")


def combined_integers(op, m, n):
    """As combined, for two integers and an operator other than ==."""
    if op == "<":
        return ("value", ("bool", m < n))
    if op == "+":
        result = m + n
    elif op == "-":
        result = m - n
    elif op == "*":
        result = m * n
    else:
        return ("raise", "wrong kind")
    if not fits_integer(result):
        return ("raise", "too large")
    return ("value", ("int", result))


def combined_texts(op, s, t):
    """As combined, for two texts and an operator other than ==."""
    if op == "<":
        return ("value", ("bool", s < t))
    if op != "+":
        return ("raise", "wrong kind")
    if not fits_text(s + t):
        return ("raise", "too large")
    return ("value", ("text", s + t))
