"""The least form of a table of states.

Operators of sets make tables, and an operator may change only lists that its
functions made themselves; so each function here returns new lists.
"""

from textworkshop.signs import all_signs


def least_form(named, rows, good):
    """The named signs, the rows and the good states of the least alike table."""
    met = met_states(rows, asked_width(named))
    columns = met_columns(rows, met, asked_width(named))
    truths = good_truths(met, good)
    classes = dense(state_classes(unlike(columns), truths))
    lots = sign_lots(named, merged_columns(columns, classes))
    rest, last = greatest_lot(lots)
    least_named = "".join([sign for sign in all_signs() if sign not in rest])
    merged = [column_of(lots, sign) for sign in least_named]
    merged.append(last)
    merged_rows = list(zip(*merged))
    order = met_states(merged_rows, len(least_named) + 1)
    numbers = {state: number for number, state in enumerate(order)}
    good_classes = {classes[state] for state, truth in enumerate(truths) if truth}
    least_rows = tuple([tuple([numbers[to] for to in merged_rows[state]]) for state in order])
    return least_named, least_rows, tuple([numbers[state] for state in order if state in good_classes])


def asked_width(named):
    """How many entries of a row play a part: none for a rest without signs."""
    return min(len(named) + 1, len(all_signs()))


def met_states(rows, width):
    """The states that some text meets, in the order of a search by breadth."""
    order = [0]
    seen = {0: True}
    at = 0
    while at < len(order):
        row = rows[order[at]][:width]
        for to in row:
            if to not in seen:
                seen[to] = True
                order.append(to)
        at += 1
    return order


def met_columns(rows, met, width):
    """The columns of a table of the states that are met, numbered as they are met."""
    numbers = {state: number for number, state in enumerate(met)}
    kept = [[numbers[to] for to in rows[state][:width]] for state in met]
    return list(zip(*kept))


def good_truths(met, good):
    """Of each state that is met whether it is good."""
    wanted = set(good)
    return [state in wanted for state in met]


def unlike(columns):
    """The columns, equal ones once."""
    return list({column: True for column in columns})


def state_classes(columns, truths):
    """Of each state the number of its class: alike states have the same one.

    Classes are stretches of one line of states, which are split at what leads
    into a class; of a class that is split the smaller part is looked at again,
    so no state is looked at often (Hopcroft).
    """
    line = list(bad_ones_first(truths))
    place = list(places_in(line))
    classes = [1 if truth else 0 for truth in truths]
    bad, width = truths.count(False), len(columns)
    starts = [0, bad]
    stops = [bad, len(truths)]
    arrows = [arrows_into(column) for column in columns]
    smaller = 0 if bad * 2 <= len(truths) else 1
    work = list(range(smaller * width, (smaller + 1) * width))
    while work:
        splitter, at = divmod(work.pop(), width)
        sources = sources_of(arrows[at], line[starts[splitter]:stops[splitter]])
        hits = {}
        for state in sources:
            number, here = classes[state], place[state]
            to = starts[number] + hits.get(number, 0)
            other = line[to]
            line[here], line[to] = other, state
            place[other], place[state] = here, to
            hits[number] = hits.get(number, 0) + 1
        for number, many in hits.items():
            start, stop, middle = starts[number], stops[number], starts[number] + many
            if middle < stop:
                ahead = many * 2 <= stop - start
                starts[number], stops[number] = (middle, stop) if ahead else (start, middle)
                starts.append(start if ahead else middle)
                stops.append(middle if ahead else stop)
                for state in line[starts[-1]:stops[-1]]:
                    classes[state] = len(starts) - 1
                work.extend(list(range((len(starts) - 1) * width, len(starts) * width)))
    return classes


def bad_ones_first(truths):
    """The numbers of the truths, those of the false ones ahead."""
    return sorted(range(len(truths)), key=lambda state: truths[state])


def places_in(line):
    """Of each state its place in a line of all states."""
    place = [0 for _ in line]
    for at, state in enumerate(line):
        place[state] = at
    return place


def arrows_into(column):
    """From where a column leads to each state: where its sources start, and all sources."""
    many = len(column)
    keys = sorted([to * many + state for state, to in enumerate(column)])
    starts = [0 for _ in range(many + 1)]
    for to in column:
        starts[to + 1] = starts[to + 1] + 1
    for state in range(many):
        starts[state + 1] = starts[state + 1] + starts[state]
    return starts, [key % many for key in keys]


def sources_of(arrows, states):
    """The states from which a column leads to one of these states."""
    starts, sources = arrows
    found = []
    for state in states:
        found.extend(sources[starts[state]:starts[state + 1]])
    return found


def dense(classes):
    """The classes numbered in the order of their first states."""
    numbers = {}
    for number in classes:
        if number not in numbers:
            numbers[number] = len(numbers)
    return [numbers[number] for number in classes]


def merged_columns(columns, classes):
    """The columns of the table of the classes."""
    leaders = {}
    for state, number in enumerate(classes):
        leaders.setdefault(number, state)
    firsts = list(leaders.values())
    return [tuple([classes[column[state]] for state in firsts]) for column in columns]


def sign_lots(named, columns):
    """The lots of signs that do the same: tuples (signs, column), by their least signs."""
    lots = {}
    for sign in all_signs():
        column = columns[named.find(sign)]
        lots[column] = lots.get(column, "") + sign
    return [(signs, column) for column, signs in lots.items()]


def greatest_lot(lots):
    """The greatest lot; of equally great ones the one with the least sign."""
    best = lots[0]
    for lot in lots:
        if len(lot[0]) > len(best[0]):
            best = lot
    return best


def column_of(lots, sign):
    """The column of a sign."""
    return [column for signs, column in lots if sign in signs][0]
