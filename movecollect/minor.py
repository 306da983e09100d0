"""The young half gone through; the book spares going through the old one."""

from movecollect.heaps import OLD, YOUNG, pairs, points_young
from movecollect.moves import carried, follow, led


def come_young(heap):
    """The places of the young things that are come to from the book, rising."""
    young, old, roots, book = heap
    ahead = young_places(roots)
    ahead.extend(young_places([old[place][1][k] for place, k in book]))
    come = set()
    while ahead:
        place = ahead.pop()
        if place not in come:
            come.add(place)
            ahead.extend(young_places(young[place][1]))
    return tuple(sorted(come))


def minor(heap, patience):
    """The heap when its young half is gone through."""
    young, old, roots, book = heap
    come = come_young(heap)
    leaving = [place for place in come if young[place][0] >= patience]
    staying = [place for place in come if young[place][0] < patience]
    now = {}
    follow(now, YOUNG, staying, YOUNG, 0)
    follow(now, YOUNG, leaving, OLD, len(old))
    told = sorted({place for place, _ in book})
    aged = carried(young, staying, now, 1)
    grown = relinked(old, told, now) + carried(young, leaving, now, 0)
    # Only what the book told of and what has just come can point to young things.
    looked_at = told + list(range(len(old), len(grown)))
    return aged, grown, led(roots, now), pairs(grown, looked_at)


def young_places(values):
    """The places to which the pointers to the young half among these lead."""
    return [value[1] for value in values if points_young(value)]


def relinked(old, places, now):
    """The old half, with the pointers of the things at these places led."""
    things = list(old)
    for place in places:
        age, fields = old[place]
        things[place] = (age, led(fields, now))
    return tuple(things)
