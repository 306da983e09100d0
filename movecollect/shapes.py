"""The shape of a heap: what can be come to, wherever it lies."""

from movecollect.heaps import thing_at
from movecollect.meets import met
from movecollect.moves import led


def shape(heap):
    """The roots and the things that are come to, with numbers instead of places."""
    young, old, roots, book = heap
    pointers = met(heap)
    numbered = {pointer: ("thing", number) for number, pointer in enumerate(pointers)}
    rows = [thing_at(heap, pointer)[1] for pointer in pointers]
    return led(roots, numbered), tuple([led(row, numbered) for row in rows])
