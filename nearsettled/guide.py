"""Where to split if looking at places shows that there is no answer, so that the tree stays small.

A tree tells again what it needs in each of its branches. So a place is split at which the strikes leave one value,
if those that are needed for this are soon told; else a place on which much of what comes later is built.
"""

from nearsettled.looking import is_one

SOON = 50


def place_to_split(net, chosen, left):
    """A place that is not chosen; left are the bits from which looking at places empties a place."""
    told = net.strike(list(left), list(range(len(net.uses))), stop=True)
    causes = _all_causes(net, told, left)
    goals, place = _first_goals(told, causes, left)
    if place is None:
        # A chosen value is struck before any other place has one value left: its row has places that are not chosen.
        place = [spot for spot in net.uses[told[-1][2]][1] if chosen[spot] is None][0]
    sizes = {}
    for at in sorted(causes):
        sizes[at] = 1 + sum([sizes[cause] for cause in causes[at]])
    if sum([sizes[at] for at in goals]) <= SOON:
        return place
    between = _place_between(told, _behind(goals, causes), causes)
    return place if between is None else between


def _all_causes(net, told, left):
    """By the number of each strike that is needed for the last one's place: the numbers of those it needs itself."""
    times = {strike[:2]: at for at, strike in enumerate(told)}
    needed = {at: True for at, strike in enumerate(told) if strike[0] == told[-1][0]}
    causes = {}
    for at in range(len(told) - 1, -1, -1):
        if at in needed:
            causes[at] = _causes(net, told[at], left, times, needed)
            for cause in causes[at]:
                needed[cause] = True
    return causes


def _causes(net, strike, left, times, needed):
    """The numbers of strikes that are needed for a strike, those that are needed anyway if there is a choice."""
    place, value, number, position = strike
    table, spots = net.uses[number]
    causes = []
    for row in net.table_rows[table]:
        others = [pair for at, pair in enumerate(zip(spots, row)) if at != position]
        if row[position] == value and all([left[spot] >> worth & 1 for spot, worth in others]):
            before = [times[pair] for pair in others if pair in times and times[pair] < times[(place, value)]]
            if not any([at in causes for at in before]):
                known = [at for at in before if at in needed]
                causes.append(min(known) if known != [] else min(before))
    return causes


def _first_goals(told, causes, left):
    """The needed strikes of the first place at which they leave one value, and it; the last strike, and None."""
    still = list(left)
    for at in sorted(causes):
        place, value = told[at][:2]
        still[place] = still[place] - (1 << value)
        if is_one(still[place]):
            return ([other for other in sorted(causes) if other <= at and told[other][0] == place], place)
    return ([len(told) - 1], None)


def _behind(goals, causes):
    """The ascending list of the numbers of the strikes that some strikes need, with these."""
    found = {}
    waiting = list(goals)
    while waiting != []:
        at = waiting.pop()
        if at not in found:
            found[at] = True
            waiting.extend(causes[at])
    return sorted(found)


def _place_between(told, numbers, causes):
    """A place about in the middle of some strikes, such that few places link what is before and behind it.

    None if none do.
    """
    last_use = {}
    for at in numbers:
        for cause in causes[at]:
            last_use[cause] = at
    many = len(numbers)
    best = None
    for middle in range(many // 3 + 1, many - many // 3):
        linking = [cause for cause in numbers[:middle] if cause in last_use and last_use[cause] >= numbers[middle]]
        off = abs(2 * middle - many)
        if best is None or (len(linking), off) < best[:2]:
            best = (len(linking), off, linking)
    return told[best[2][-1]][0] if best[2] != [] else None
