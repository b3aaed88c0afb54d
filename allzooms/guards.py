"""Guards: what must hold of a screen, claims or functions that give them."""

from allzooms.drawn import Claim
from allzooms.errors import BadScreen, Refused, SnapError
from allzooms.page_words import MOST_LETTERS


def is_guard_name(value):
    """Whether any value can be the name of a guard."""
    if not isinstance(value, str) or len(value) > MOST_LETTERS:
        return False
    return value.isascii() and value.isalpha() and value.islower()


def check_rule(rule):
    """Refuses what can be neither a claim nor a function."""
    if rule is None or isinstance(rule, (bool, int, str, tuple, list, dict)):
        raise BadScreen("rule")


def guard_claim(name, rule, drawing):
    """The claim of a guard for what is drawn."""
    if isinstance(rule, Claim):
        return rule
    try:
        claim = rule(drawing)
    except SnapError as error:
        raise Refused(name) from error
    if not isinstance(claim, Claim):
        raise Refused(name)
    return claim


def check_guard(name, rule, state):
    """Refuses a state of a screen in which a guard does not hold."""
    if not guard_claim(name, rule, state.drawing).holds(state.zoom, state.scroll):
        raise Refused(name)


def check_guards(state):
    """Refuses a state in which one of its guards does not hold, the first one."""
    for name in names_in_order(state.rules):
        check_guard(name, state.rules[name], state)


def names_in_order(rules):
    """The ascending tuple of the names of guards."""
    return tuple(sorted([str(name) for name in rules]))
