"""The young half gone through; the book spares going through the old one."""

from movecollect.heaps import OLD, YOUNG, pairs
from movecollect.meets import fresh, places_in
from movecollect.moves import carried, follow, led


def come_young(heap):
    """The places of the young things that are come to from the book, rising."""
    young, old, roots, book = heap
    known = {}
    ahead = fresh(roots, known)
    ahead.extend(fresh([old[place][1][k] for place, k in book], known))
    while ahead:
        half, place = ahead.pop()
        # Old things are not gone through: the book tells what they lead to.
        if half == YOUNG:
            ahead.extend(fresh(young[place][1], known))
    return places_in(YOUNG, list(known))


def minor(heap, patience):
    """The heap when its young half is gone through."""
    young, old, roots, book = heap
    come = come_young(heap)
    leaving = [place for place in come if young[place][0] >= patience]
    staying = [place for place in come if young[place][0] < patience]
    now = {}
    follow(now, YOUNG, staying, YOUNG, 0)
    follow(now, YOUNG, leaving, OLD, len(old))
    told = sorted({place for place, _ in book})
    aged = carried(young, staying, now, 1)
    grown = relinked(old, told, now) + carried(young, leaving, now, 0)
    # Only what the book told of and what has just come can point to young things.
    looked_at = told + list(range(len(old), len(grown)))
    return aged, grown, led(roots, now), pairs(grown, looked_at)


def relinked(old, places, now):
    """The old half, with the pointers of the things at these places led."""
    things = list(old)
    for place in places:
        age, fields = old[place]
        things[place] = (age, led(fields, now))
    return tuple(things)
