"""Reconciliation: two lists of the same movements are compared."""

from corebank.errors import BadValue


def pair_equal(ours, theirs):
    """Pair each of ours with the first free one of theirs that has the same key and units."""
    free = {}
    for place, (key, _, units) in enumerate(theirs):
        free.setdefault((key, units), []).append(place)
    pairs = []
    for place, (key, _, units) in enumerate(ours):
        places = free.get((key, units), [])
        if len(places) > 0:
            pairs.append((place, places.pop(0)))
    return pairs


def first_near(row, theirs, places, window):
    """The first of these places of theirs with the same units and a day that is near; None if there is none."""
    _, day, units = row
    for place in places:
        _, other_day, other_units = theirs[place]
        if other_units == units and abs(other_day - day) <= window:
            return place
    return None


def pair_near(ours, theirs, ours_left, theirs_left, window):
    """Pair each of ours that is left with the first one left of theirs that is near."""
    free = list(theirs_left)
    pairs = []
    for place in ours_left:
        found = first_near(ours[place], theirs, free, window)
        if found is not None:
            pairs.append((place, found))
            free.remove(found)
    return pairs


def places_left(rows, taken):
    """The places of the rows that are not among the taken ones."""
    used = {place: True for place in taken}
    return [place for place in range(len(rows)) if place not in used]


def match(ours, theirs, window):
    """Pair two lists of tuples (key, day, units): (pairs, places of ours left, places of theirs left)."""
    if window < 0:
        raise BadValue("the window is below 0")
    pairs = pair_equal(ours, theirs)
    ours_left = places_left(ours, [mine for mine, _ in pairs])
    theirs_left = places_left(theirs, [other for _, other in pairs])
    pairs += pair_near(ours, theirs, ours_left, theirs_left, window)
    ours_left = places_left(ours, [mine for mine, _ in pairs])
    theirs_left = places_left(theirs, [other for _, other in pairs])
    return (pairs, ours_left, theirs_left)
