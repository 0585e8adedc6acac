"""Guards for all texts."""

from textworkshop.counting import hopeful_states
from textworkshop.errors import BadWord
from textworkshop.guards import check_tongue
from textworkshop.leafsets import leaf_set
from textworkshop.signs import is_text
from textworkshop.textsets import all_texts
from textworkshop.tonguesets import check_weight


def linetest_weight(test):
    """How dear a line test is."""
    match test.word:
        case "from":
            return 2 * linetest_weight(test.first) * linetest_weight(test.second)
        case "number":
            return test.argument + 1
        case "short":
            return test.argument + 2
        case "begins" | "is":
            return len(test.argument) + 2
        case "ends" | "has":
            return len(test.argument) + 1
        case _:
            return 1


def guard_weight(guard, tongue=None):
    """How dear a guard is; raises NoTongue."""
    check_tongue(guard, tongue)
    weight = 1
    for leaf in guard.leaves:
        weight *= leaf_weight(leaf.form, leaf.fields) * (tongue.weight if leaf.asks_kinds else 1)
    return weight


def leaf_weight(form, fields):
    """How dear a leaf is, without the factor of its tongue."""
    match form:
        case "begins" | "is":
            return len(fields[0]) + 2
        case "ends" | "has" | "kind has":
            return len(fields[0]) + 1
        case "kind each":
            return len(fields[0]) * (len(fields[0]) + 1) // 2 + 1
        case "places":
            return (fields[1] + 1) * len(fields[0]) + 1
        case "signs":
            return fields[0] + 2
        case "lines":
            return (fields[1] + 1) * linetest_weight(fields[0]) + 1
        case "each line" | "some line":
            return linetest_weight(fields[0]) + 1
        case "order":
            return 2 * linetest_weight(fields[0]) * linetest_weight(fields[1]) + 1
        case "paired":
            return fields[2] + 2
        case _:
            return 1


def guard_set(guard, tongue=None):
    """The set of the texts that keep a guard; raises NoTongue, TooHeavy."""
    check_weight(guard_weight(guard, tongue))
    return kept_set(guard, tongue)


def kept_set(guard, tongue):
    """The set of the texts that keep a guard that is not too heavy."""
    if not guard.parts:
        return leaf_set(guard.form, guard.fields, tongue)
    kept = kept_set(guard.parts[0], tongue)
    if guard.form == "not":
        return ~kept
    for part in guard.parts[1:]:
        kept = kept & kept_set(part, tongue) if guard.form == "and" else kept | kept_set(part, tongue)
    return kept


def guard_sets(guards, tongue):
    """The sets of guards; raises the errors of each one, then TooHeavy for all together.

    A guard that is given twice counts twice; its set is made once.
    """
    sets = {}
    product = 1
    for guard in guards:
        if guard.written not in sets:
            sets[guard.written] = guard_set(guard, tongue)
        product *= sets[guard.written].table.states
    check_weight(product)
    return [sets[guard.written] for guard in guards]


def implied_text(one, other, tongue=None):
    """None if what keeps one keeps the other; otherwise the first text that does not."""
    first, second = guard_sets([one, other], tongue)
    return (first - second).least_text()


def parting_text(one, other, tongue=None):
    """None if the same texts keep both; otherwise the first text that keeps just one of them."""
    first, second = guard_sets([one, other], tongue)
    return ((first - second) | (second - first)).least_text()


def needless_guards(guards, tongue=None):
    """The numbers of the guards that all others imply, but for those already found needless."""
    sets = guard_sets(guards, tongue)
    later = shared_sets(sets)
    kept = all_texts()
    needless = []
    for number, own in enumerate(sets):
        if (kept & later[number + 1]).within(own):
            needless.append(number)
        else:
            kept = kept & own
    return tuple(needless)


def clashing_guards(guards, tongue=None):
    """The numbers of guards that no text keeps together, none if some text keeps all."""
    sets = guard_sets(guards, tongue)
    later = shared_sets(sets)
    if not later[0].is_empty():
        return ()
    kept = all_texts()
    clashing = []
    for number, own in enumerate(sets):
        if not (kept & later[number + 1]).is_empty():
            clashing.append(number)
            kept = kept & own
    return tuple(clashing)


def shared_sets(sets):
    """Of each place in a list of sets what all sets from there on have; at the end all texts."""
    shared = [all_texts()]
    for own in reversed(list(sets)):
        shared.append(shared[-1] & own)
    return shared[::-1]


def lost_place(guard, text, tongue=None):
    """How many signs of a text are the first ones behind which it cannot keep a guard; None if it always can."""
    if not is_text(text):
        raise BadWord("text")
    table = guard_set(guard, tongue).table
    hopeful = hopeful_states(table)
    state = 0
    for place in range(len(text) + 1):
        if not hopeful[state]:
            return place
        if place < len(text):
            state = table.moved(state, text[place])
    return None


def least_rest(guard, text, tongue=None):
    """The first of the shortest texts that let a text keep a guard if they stand behind it."""
    if not is_text(text):
        raise BadWord("text")
    return guard_set(guard, tongue).behind(text).least_text()
