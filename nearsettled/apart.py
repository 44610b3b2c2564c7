"""An order of the places of a puzzle, in which those come early without which the others fall apart.

Where the places are chosen in this order, what is chosen soon lies between groups that have nothing to do with each
other: each of them is then gone through once, and not again for each way through another one.
"""


def apart_order(rows, places):
    """(the list of all places, of as many as there are; how many of them at most follow on one another in a group).

    rows are tuples (number of a table, tuple of places).
    """
    near = [{} for _ in range(places)]
    for _, spots in rows:
        for one in spots:
            for other in spots:
                if one != other:
                    near[one][other] = True
    order = []
    depth = 0
    waiting = [(list(range(places)), 0)]
    while waiting != []:
        group, above = waiting.pop()
        reached = _reached(group, near)
        if len(reached) < len(group):
            waiting.append(([place for place in group if place not in reached], above))
            waiting.append((reached, above))
        elif group != []:
            between = _between(group, near)
            order.extend(between)
            depth = max(depth, above + len(between))
            waiting.append(([place for place in group if place not in between], above + len(between)))
    return (order, depth)


def _reached(group, near):
    """The places of a group that are reached from its first one, in the order of their distance."""
    within = {place: True for place in group}
    reached = [group[0]] if group != [] else []
    found = {place: True for place in reached}
    at = 0
    while at < len(reached):
        for place in near[reached[at]]:
            if place in within and place not in found:
                found[place] = True
                reached.append(place)
        at += 1
    return reached


def _between(group, near):
    """Few places of a group without which it falls into parts, the greatest of them small; all, if it never does."""
    best = (1, 0, group)
    for place in group:
        sequence = _reached([place] + [other for other in group if other != place], near)
        found = _best_cut(sequence, near)
        # The fewer places for the more that is cut off, the better.
        if found[0] * best[1] < best[0] * found[1]:
            best = found
    return best[2]


def _best_cut(sequence, near):
    """(how many places, how many places are cut off, the places): the best at which a sequence is cut in two."""
    best = (1, 0, sequence)
    within = {place: True for place in sequence}
    ahead = {spot: len([one for one in near[spot] if one in within]) for spot in sequence}
    border = {}
    for at, place in enumerate(sequence):
        for other in near[place]:
            if other in within:
                ahead[other] = ahead[other] - 1
        border[place] = True
        border = {spot: True for spot in border if ahead[spot] > 0}
        off = min(at + 1 - len(border), len(sequence) - at - 1)
        if len(border) * best[1] < best[0] * off:
            best = (len(border), off, list(border))
    return best
