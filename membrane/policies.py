"""Policies: what a side lets the other side do with its objects."""

from membrane.errors import BadPolicy
from membrane.values import is_name, is_whole_number

MOST_RULES = 12
READONLY = ("readonly",)
NOCALL = ("nocall",)
CHANGES_OF_A_NAME = ("put", "drop", "fix", "define")

# What is answered about a hidden name: as if there were no such member.
ANSWERS = {
    "get": ("answer", False, ("text", "no such name")),
    "has": ("answer", True, ("bool", False)),
    "look": ("answer", True, ("none",)),
}


def check_policy(policy):
    """None for a policy; for anything else BadPolicy is raised."""
    if not isinstance(policy, tuple) or len(policy) > MOST_RULES:
        raise BadPolicy()
    for rule in policy:
        if not is_rule_for_all(rule) and not is_rule_for_one(rule):
            raise BadPolicy()


def is_rule_for_all(rule):
    """True for a rule without only."""
    if not isinstance(rule, tuple):
        return False
    if rule == READONLY or rule == NOCALL:
        return True
    return len(rule) == 2 and rule[0] in ("hide", "protect") and is_name(rule[1])


def is_rule_for_one(rule):
    """True for a rule only."""
    if not isinstance(rule, tuple) or len(rule) != 3 or rule[0] != "only":
        return False
    return is_whole_number(rule[1]) and rule[1] >= 0 and is_rule_for_all(rule[2])


def rules_for(policy, n):
    """The rules that count for the object that crossed as the n-th one; those with only are told without it."""
    rules = []
    for rule in policy:
        if rule[0] != "only":
            rules.append(rule)
        elif rule[1] == n:
            rules.append(rule[2])
    return rules


def asked(policy, n, operation):
    """What the policy says of a request on the n-th object: ("go",), ("denied",) or ("answer", ok, value)."""
    rules = rules_for(policy, n)
    word = operation[0]
    if word in ANSWERS and ("hide", operation[1]) in rules:
        return ANSWERS[word]
    if is_denied(rules, operation):
        return ("denied",)
    return ("go",)


def is_denied(rules, operation):
    """True if one of the rules, all without only, denies the operation."""
    word = operation[0]
    if word == "call":
        return NOCALL in rules
    if word == "close":
        return READONLY in rules
    if word not in CHANGES_OF_A_NAME:
        return False
    x = operation[1]
    return READONLY in rules or ("hide", x) in rules or ("protect", x) in rules


def shown_names(policy, n, names):
    """A list of those of the names that are not hidden at the n-th object."""
    rules = rules_for(policy, n)
    return [x for x in names if ("hide", x) not in rules]
