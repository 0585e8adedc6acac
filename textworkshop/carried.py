"""What must be true of a text ahead of a script, and what comes out."""

from textworkshop.guardsets import linetest_weight
from textworkshop.questions import (
    check_number, check_question, named_in, parts_of, question_signs, script_links, script_ways, set_links)
from textworkshop.searches import shortest_way, told_moves
from textworkshop.signs import all_signs
from textworkshop.statetables import table_of_ways
from textworkshop.textsets import TextSet
from textworkshop.tonguesets import check_weight
from textworkshop.ways import TextMachine, chained, met_ways
from textworkshop.weights import test_guess


def broken_text(script, goal, *, under=None):
    """None if the script makes only texts of a set, otherwise the first of the shortest texts of which it does not."""
    parts = parts_of(script)
    check_question(parts, [goal, under])
    return text_into(parts, ~goal, under)


def text_into(parts, goal, under):
    """The first of the shortest texts of which the parts of a script make one of a set; or None."""
    signs = question_signs(parts, [goal, under])
    links = set_links(under, signs) + script_links(parts, signs) + set_links(goal, signs)
    return shortest_way(chained(signs, links))


def refused_text(script, number=None, *, under=None):
    """The first of the shortest texts that a script, or one step of it, refuses; None if there is none."""
    if number is not None:
        check_number(script, number)
    parts = parts_of(script)
    check_question(parts, [under])
    signs = question_signs(parts, [under])
    if number is None:
        ways = script_ways(parts, signs, under, True)
    else:
        links = set_links(under, signs) + script_links(parts[:number], signs)
        ways = chained(signs, links + script_links(parts[number:number + 1], signs, True))
    return shortest_way(ways, lambda state: ways.refusers[state] is not None)


def needed_set(script, goal):
    """The set of the texts that a script does not refuse, and of which it makes texts of a set; raises TooHeavy."""
    needed = goal
    for part in reversed(list(parts_of(script))):
        check_weight(load_of(part, needed.table.states))
        needed = needed_by(part, needed)
    return needed


def load_of(part, states):
    """How dear it is to make what a step needs for a set with so many states."""
    test = part.step.test
    if test is None or test_guess(test) == 1:
        return part.weight * states
    own = linetest_weight(test)
    each = part.weight // (2 * own) * states
    return own * each * each


def needed_by(part, goal):
    """The set of the texts of which one step makes texts of a set."""
    table = goal.table
    signs = question_signs([part], [goal], 1)
    named = named_in([part], [goal])
    spare = [at for at, sign in enumerate(signs) if sign not in named]
    ways = part.ways(signs, False)
    moves = told_moves(ways)

    def steps(state, sign):
        """The states of the ways, with those of the table behind what they tell."""
        at = spare[0] if sign is None else ways.places[sign]
        return tuple([(to, behind(state[1], told)) for to, told in moves[state[0]][at]])

    def behind(known, told):
        """The state of the table behind some more signs."""
        for sign in told:
            known = table.moved(known, sign)
        return known

    def is_good(state):
        """Whether a text of the set is left if the text ends here."""
        word = ways.ends[state[0]]
        return word is not None and table.is_good(behind(state[1], word))

    firsts = tuple([(state, behind(0, word)) for state, word in ways.starts])
    return TextSet(table_of_ways(firsts, steps, is_good, named))


def needed_many(script, goal, length):
    """How many texts of a length a script does not refuse, and makes texts of a set of them; raises TooHeavy."""
    parts = parts_of(script)
    check_question(parts, [goal])
    signs = question_signs(parts, [goal], 1)
    ways = chained(signs, script_links(parts, signs) + set_links(goal, signs))
    targets = counted_targets(ways, named_in(parts, [goal]))
    many = [0 if word is None else 1 for word in ways.ends]
    for _ in range(length):
        many = [sum([count * sum([many[to] for to in states]) for count, states in lots]) for lots in targets]
    return sum([many[state] for state, _ in ways.starts])


def counted_targets(ways, named):
    """For each state lots of the states behind one sign: tuples (count, states), by how many signs each one counts.

    A sign that is not named stands for all such signs.
    """
    others = len(all_signs()) - len(named)
    counts = [1 if sign in named else others for sign in ways.signs]
    targets = []
    for row in ways.moves:
        lots = {}
        for count, moves in zip(counts, row):
            lots.setdefault(count, []).extend([move[0] for move in moves])
        targets.append(tuple(lots.items()))
    return targets


def origin_text(script, result, *, under=None):
    """The first of the shortest texts of which a script makes this result; None if there is none."""
    parts = parts_of(script)
    check_question(parts, [under], len(result) + 1)
    signs = question_signs(parts, [under], word=result)
    links = set_links(under, signs) + script_links(parts, signs)
    return shortest_way(chained(signs, [*links, met_ways(signs, TextMachine(result))]))
