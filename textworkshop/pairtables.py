"""Two tables that are read side by side."""

from textworkshop.signs import all_signs
from textworkshop.statetables import STATE_LIMIT, check_many, full_rows


def read_together(one, two):
    """The named signs and the rows of both tables together, and of each pair the truths of both parts.

    The truths of a pair tell whether the state of the first table is good, and
    that of the second one.
    """
    named = both_named(one, two)
    lefts, rights = asked_entries(one, named), asked_entries(two, named)
    pairs = [0]
    numbers = {0: 0}
    rows = []
    while len(rows) < len(pairs):
        left, right = divmod(pairs[len(rows)], two.states)
        left_row, right_row = one.rows[left], two.rows[right]
        row = []
        for here, there in zip(lefts, rights):
            pair = left_row[here] * two.states + right_row[there]
            if pair not in numbers:
                numbers[pair] = len(pairs)
                pairs.append(pair)
                check_many(len(pairs), STATE_LIMIT)
            row.append(numbers[pair])
        rows.append(row)
    truths = [(one.is_good(pair // two.states), two.is_good(pair % two.states)) for pair in pairs]
    return named, full_rows(rows, named), truths


def both_named(one, two):
    """The signs that one of two tables names, ascending."""
    return "".join([sign for sign in all_signs() if sign in one.named or sign in two.named])


def asked_entries(table, named):
    """The places in the rows of a table of the named signs, and of the others, if there are any."""
    entries = [table.named.find(sign) for sign in named]
    if len(named) < len(all_signs()):
        entries.append(-1)
    return entries
