"""Both halves gone through, from the roots."""

from movecollect.heaps import OLD, YOUNG, whole_book
from movecollect.meets import met, places_in
from movecollect.moves import carried, follow, led


def come_both(heap):
    """The places of the young and of the old things come to from the roots, rising."""
    pointers = met(heap)
    return places_in(YOUNG, pointers), places_in(OLD, pointers)


def major(heap):
    """The heap when both halves are gone through."""
    young, old, roots, book = heap
    young_left, old_left = come_both(heap)
    now = {}
    follow(now, YOUNG, young_left, YOUNG, 0)
    follow(now, OLD, old_left, OLD, 0)
    thinned = carried(old, old_left, now, 0)
    return carried(young, young_left, now, 0), thinned, led(roots, now), whole_book(thinned)
