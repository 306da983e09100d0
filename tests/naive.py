"""A slow and plain telling of the document, which the tests hold the program against.

Things become objects that refer to each other, so no place has to be counted.
"""

MOST = 10 ** 60 - 1


class Thing:
    def __init__(self, age, fields):
        self.age = age
        self.fields = fields


def resolved(values, halves):
    return [
        halves[value[0]][value[1]] if isinstance(value, tuple) else value
        for value in values
    ]


def graph(heap):
    """The lists of young things, old things and roots, pointers being the objects."""
    young, old, roots, _ = heap
    halves = {
        "young": [Thing(age, fields) for age, fields in young],
        "old": [Thing(age, fields) for age, fields in old],
    }
    for half in halves.values():
        for thing in half:
            thing.fields = resolved(thing.fields, halves)
    return halves["young"], halves["old"], resolved(roots, halves)


def full_book(old):
    """Every pair that a book must have for this old half, found by looking at all."""
    return tuple(
        (place, k)
        for place, (_, fields) in enumerate(old)
        for k, value in enumerate(fields)
        if isinstance(value, tuple) and value[0] == "young"
    )


def told(young, old, roots):
    """The heap of these objects, as the document writes it."""
    pointers = {id(thing): ("young", place) for place, thing in enumerate(young)}
    pointers.update({id(thing): ("old", place) for place, thing in enumerate(old)})

    def values(row):
        return tuple(pointers[id(x)] if isinstance(x, Thing) else x for x in row)

    halves = [tuple((x.age, values(x.fields)) for x in half) for half in (young, old)]
    return halves[0], halves[1], values(roots), full_book(halves[1])


def reached(young, old, roots):
    """The young things that are come to, by asking all of them until none is added."""
    mine = {id(thing) for thing in young}
    come = {id(x) for x in roots if id(x) in mine}
    come |= {id(x) for thing in old for x in thing.fields if id(x) in mine}
    before = -1
    while before < len(come):
        before = len(come)
        for thing in young:
            if id(thing) in come:
                come |= {id(x) for x in thing.fields if id(x) in mine}
    return come


def come_young(heap):
    young, old, roots = graph(heap)
    come = reached(young, old, roots)
    return tuple(place for place, thing in enumerate(young) if id(thing) in come)


def minor(heap, patience):
    young, old, roots = graph(heap)
    come = reached(young, old, roots)
    left = [thing for thing in young if id(thing) in come]
    moved = [thing for thing in left if thing.age >= patience]
    stayed = [thing for thing in left if thing.age < patience]
    for thing in stayed:
        thing.age += 1
    return told(stayed, old + moved, roots)


def shape(heap):
    """What can be come to from the roots, wherever it lies (point 12)."""
    young, old, roots = graph(heap)
    order = []
    numbers = {}

    def values(row):
        out = []
        for x in row:
            if isinstance(x, Thing):
                if id(x) not in numbers:
                    numbers[id(x)] = len(order)
                    order.append(x)
                x = ("thing", numbers[id(x)])
            out.append(x)
        return tuple(out)

    first = values(roots)
    things = []
    while len(things) < len(order):
        things.append(values(order[len(things)].fields))
    return first, tuple(things)


def chance_value(chance, many_young, many_old):
    kind = chance.randrange(5)
    if kind == 0:
        return None
    if kind == 1:
        return chance.choice((0, 1, -1, 7, MOST, -MOST))
    if kind in (2, 3) and many_young:
        return ("young", chance.randrange(many_young))
    if many_old:
        return ("old", chance.randrange(many_old))
    return None


def chance_heap(chance):
    """A sound heap; the chance is seeded by the test, so each run sees the same ones."""
    many_young = chance.randrange(9)
    many_old = chance.randrange(9)

    def row(most):
        return tuple(
            chance_value(chance, many_young, many_old)
            for _ in range(chance.randrange(most))
        )

    young = tuple((chance.randrange(5), row(4)) for _ in range(many_young))
    old = tuple((chance.randrange(5), row(4)) for _ in range(many_old))
    return young, old, row(5), full_book(old)
