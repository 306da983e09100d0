"""What is come to: pointers, noted when they are met for the first time."""

from movecollect.heaps import thing_at


def fresh(values, known):
    """The pointers among these values that are not known yet; from now on they are."""
    pointers = []
    for value in values:
        if value not in known and isinstance(value, tuple):
            known[value] = True
            pointers.append(value)
    return pointers


def met(heap):
    """The pointers to all that is come to from the roots, in the order of meeting."""
    young, old, roots, book = heap
    known = {}
    order = fresh(roots, known)
    gone_through = 0
    while gone_through < len(order):
        _, fields = thing_at(heap, order[gone_through])
        order.extend(fresh(fields, known))
        gone_through += 1
    return order


def places_in(half, pointers):
    """The places to which those of the pointers that point to this half lead, rising."""
    return tuple(sorted([place for word, place in pointers if word == half]))
