"""Heaps as plain tuples (young, old, roots, book), and the small changes of them.

No change touches the heap that it is handed: each makes another heap.
"""

from movecollect.errors import NoField, NoRoot, NoThing

YOUNG = "young"
OLD = "old"


def started(many):
    """A heap of no things, with so many roots, each None."""
    return (), (), (None,) * many, ()


def sound(heap):
    """Whether each pointer leads to a thing and the book is as it must be."""
    young, old, roots, book = heap
    rows = [roots]
    rows.extend([fields for _, fields in young])
    rows.extend([fields for _, fields in old])
    for row in rows:
        if any(stray(heap, value) for value in row):
            return False
    return book == whole_book(old)


def field(heap, pointer, k):
    """The value of field k of the thing to which the pointer leads."""
    _, fields = thing_with(heap, pointer, k)
    return fields[k]


def made(heap, fields):
    """The heap with a new thing of these fields, and the pointer to it."""
    for value in fields:
        refuse_stray(heap, value)
    young, old, roots, book = heap
    grown = young + ((0, fields),)
    return (grown, old, roots, book), (YOUNG, len(young))


def hold(heap, k, value):
    """The heap in which root k holds the value."""
    refuse_no_root(heap, k)
    refuse_stray(heap, value)
    young, old, roots, book = heap
    return young, old, replaced(roots, k, value), book


def put(heap, pointer, k, value):
    """The heap in which field k of the pointer's thing is the value."""
    age, fields = thing_with(heap, pointer, k)
    refuse_stray(heap, value)
    young, old, roots, book = heap
    place = pointer[1]
    changed = (age, replaced(fields, k, value))
    if points_young(pointer):
        return replaced(young, place, changed), old, roots, book
    rewritten = rebooked(book, (place, k), points_young(value))
    return young, replaced(old, place, changed), roots, rewritten


def points_young(value):
    """Whether the value is a pointer to the young half."""
    return isinstance(value, tuple) and value[0] == YOUNG


def half_of(heap, pointer):
    """The half to which the pointer points."""
    young, old, roots, book = heap
    return young if points_young(pointer) else old


def thing_at(heap, pointer):
    """The thing to which the pointer leads."""
    return half_of(heap, pointer)[pointer[1]]


def stray(heap, value):
    """Whether the value is a pointer that leads to nothing."""
    if not isinstance(value, tuple):
        return False
    # A place below nought would be counted from the end by an index.
    return not 0 <= value[1] < len(half_of(heap, value))


def refuse_stray(heap, value):
    """Refuse a pointer that leads to nothing; let every other value pass."""
    if stray(heap, value):
        raise NoThing("the value is a pointer that leads to nothing")


def refuse_no_root(heap, k):
    """Refuse a number that no root of the heap has."""
    if not 0 <= k < len(heap[2]):
        raise NoRoot("the heap has no root of that number")


def thing_with(heap, pointer, k):
    """The thing to which the pointer leads, refused where it has no field k."""
    if not isinstance(pointer, tuple) or stray(heap, pointer):
        raise NoThing("a thing is wanted, and nothing leads to one")
    age, fields = thing_at(heap, pointer)
    if not 0 <= k < len(fields):
        raise NoField("the thing has no field of that number")
    return age, fields


def replaced(row, k, value):
    """The row with another item k."""
    return row[:k] + (value,) + row[k + 1:]


def pairs(old, places):
    """The pairs that a book has for the old things at these rising places."""
    return tuple([
        (place, k)
        for place in places
        for k, value in enumerate(old[place][1])
        if points_young(value)
    ])


def whole_book(old):
    """The book for this old half."""
    return pairs(old, list(range(len(old))))


def rebooked(book, pair, wanted):
    """The book with the pair at its due spot where it is wanted, else without it."""
    at = many_below(book, pair)
    behind = at + 1 if book[at:at + 1] == (pair,) else at
    kept = (pair,) if wanted else ()
    return book[:at] + kept + book[behind:]


def many_below(book, pair):
    """How many pairs of the book come before this one."""
    # A book may be long, so it is halved and not gone through.
    low = 0
    high = len(book)
    while low < high:
        middle = (low + high) // 2
        if book[middle] < pair:
            low = middle + 1
        else:
            high = middle
    return low
