"""How many texts a table has, and which ones: the ways to its good states, length by length."""

from math import isqrt

from textworkshop.signs import all_signs


def hopeful_states(table):
    """Of each state whether a good one can be met from it."""
    sources = [[] for _ in range(table.states)]
    for state, row in enumerate(table.rows):
        for to in row:
            sources[to].append(state)
    hopeful = [table.is_good(state) for state in range(table.states)]
    work = list(table.good)
    while work:
        behind = work.pop()
        for state in sources[behind]:
            if not hopeful[state]:
                hopeful[state] = True
                work.append(state)
    return hopeful


def arrows_of(table):
    """For each state a tuple of the states to which signs lead, and by how many signs.

    Only states from which a good one can be met are told.
    """
    hopeful = hopeful_states(table)
    others = len(all_signs()) - len(table.named)
    arrows = []
    for state, row in enumerate(table.rows):
        many = {}
        for place, to in enumerate(row):
            if hopeful[state] and hopeful[to]:
                many[to] = many.get(to, 0) + (others if place == len(table.named) else 1)
        arrows.append(tuple(many.items()))
    return arrows


def near_arrows(arrows, length):
    """The arrows, but none from states that no text up to a length meets."""
    near = {0: True}
    met = [0]
    for _ in range(length):
        met = list({to: True for state in met for to, _ in arrows[state] if to not in near})
        if not met:
            break
        near.update({state: True for state in met})
    return [row if state in near else () for state, row in enumerate(arrows)]


def turned(arrows):
    """The arrows from each state back to those from which it is met."""
    back = [[] for _ in arrows]
    for state, row in enumerate(arrows):
        for to, many in row:
            back[to].append((state, many))
    return back


def spread(ways, arrows):
    """The numbers of ways that are one sign longer."""
    further = {}
    for state, many in ways.items():
        for to, signs in arrows[state]:
            further[to] = further.get(to, 0) + many * signs
    return further


def texts_of_length(table, length):
    """How many texts of this length the table has."""
    arrows = arrows_of(table)
    ways = {0: 1}
    for _ in range(length):
        ways = spread(ways, arrows)
    return sum([many for state, many in ways.items() if table.is_good(state)])


def ways_on(ways, arrows, many):
    """The told numbers of ways, and those that are 1, 2, .. signs longer, up to many."""
    told = [ways]
    for _ in range(many):
        told.append(spread(told[-1], arrows))
    return told


def numbered_text(table, length, number):
    """The text with this number of those of this length; there are so many.

    Only each step-th lot of numbers is kept, the ones between are made again:
    all of them might be too many to be held.
    """
    if length == 0:
        return ""
    arrows = turned(near_arrows(arrows_of(table), length))
    step = isqrt(length) + 1
    kept = [{state: 1 for state in table.good}]
    while len(kept) * step < length:
        kept.append(ways_on(kept[-1], arrows, step)[-1])
    signs, state = [], 0
    for block in reversed(range(len(kept))):
        ways = ways_on(kept[block], arrows, min(step, length - block * step) - 1)
        for rests in reversed(list(ways)):
            sign, number = chosen_sign(table, state, rests, number)
            signs.append(sign)
            state = table.moved(state, sign)
    return "".join(signs)


def chosen_sign(table, state, rests, number):
    """The sign with which the text with this number goes on, and its number among those that do."""
    for sign in all_signs():
        many = rests.get(table.moved(state, sign), 0)
        if number < many:
            return sign, number
        number -= many
    return "", number


def shortest_text(table):
    """The first one of the shortest texts of a table, None if it has none."""
    spare = [sign for sign in all_signs() if sign not in table.named][0]
    signs = sorted([spare, *table.named])
    came = {0: None}
    met = [0]
    at = 0
    while at < len(met):
        if table.is_good(met[at]):
            return text_to(came, met[at])
        for sign in signs:
            to = table.moved(met[at], sign)
            if to not in came:
                came[to] = (met[at], sign)
                met.append(to)
        at += 1
    return None


def text_to(came, state):
    """The text along which a state was met first."""
    signs = []
    while came[state] is not None:
        state, sign = came[state]
        signs.append(sign)
    return "".join(signs[::-1])


def texts_in_all(table):
    """How many texts a table has, None if they are endlessly many."""
    if not table.good:
        return 0
    arrows = arrows_of(table)
    waiting = [0 for _ in arrows]
    for row in arrows:
        for to, _ in row:
            waiting[to] += 1
    if waiting[0]:
        return None
    ways = {0: 1}
    work, done, total = [0], 0, 0
    while work:
        state = work.pop()
        done += 1
        total += ways[state] if table.is_good(state) else 0
        for to, signs in arrows[state]:
            ways[to] = ways.get(to, 0) + ways[state] * signs
            waiting[to] -= 1
            if not waiting[to]:
                work.append(to)
    return total if done == sum(hopeful_states(table)) else None
