"""A slow and plain telling of the document, which the tests hold the program against.

Things become objects that refer to each other, so no place has to be counted.
"""

MOST = 10 ** 60 - 1


class Thing:
    def __init__(self, age, fields):
        self.age = age
        self.fields = fields


def resolved(values, halves):
    return [
        halves[value[0]][value[1]] if isinstance(value, tuple) else value
        for value in values
    ]


def graph(heap):
    """The lists of young things, old things and roots, pointers being the objects."""
    young, old, roots, _ = heap
    halves = {
        "young": [Thing(age, fields) for age, fields in young],
        "old": [Thing(age, fields) for age, fields in old],
    }
    for half in halves.values():
        for thing in half:
            thing.fields = resolved(thing.fields, halves)
    return halves["young"], halves["old"], resolved(roots, halves)


def full_book(old):
    """Every pair that a book must have for this old half, found by looking at all."""
    return tuple(
        (place, k)
        for place, (_, fields) in enumerate(old)
        for k, value in enumerate(fields)
        if isinstance(value, tuple) and value[0] == "young"
    )


def told(young, old, roots):
    """The heap of these objects, as the document writes it."""
    pointers = {id(thing): ("young", place) for place, thing in enumerate(young)}
    pointers.update({id(thing): ("old", place) for place, thing in enumerate(old)})

    def values(row):
        return tuple(pointers[id(x)] if isinstance(x, Thing) else x for x in row)

    halves = [tuple((x.age, values(x.fields)) for x in half) for half in (young, old)]
    return halves[0], halves[1], values(roots), full_book(halves[1])


def reached(young, old, roots):
    """The young things that are come to, by asking all of them until none is added."""
    mine = {id(thing) for thing in young}
    come = {id(x) for x in roots if id(x) in mine}
    come |= {id(x) for thing in old for x in thing.fields if id(x) in mine}
    before = -1
    while before < len(come):
        before = len(come)
        for thing in young:
            if id(thing) in come:
                come |= {id(x) for x in thing.fields if id(x) in mine}
    return come


def come_young(heap):
    young, old, roots = graph(heap)
    come = reached(young, old, roots)
    return tuple(place for place, thing in enumerate(young) if id(thing) in come)


def gone_through(young, old, roots, patience):
    """Both halves behind a going through of the young one."""
    come = reached(young, old, roots)
    left = [thing for thing in young if id(thing) in come]
    moved = [thing for thing in left if thing.age >= patience]
    stayed = [thing for thing in left if thing.age < patience]
    for thing in stayed:
        thing.age += 1
    return stayed, old + moved


def minor(heap, patience):
    young, old, roots = graph(heap)
    young, old = gone_through(young, old, roots, patience)
    return told(young, old, roots)


def reached_from_roots(things, roots):
    """The things that are come to from the roots, by asking all until none is added."""
    come = {id(x) for x in roots if isinstance(x, Thing)}
    before = -1
    while before < len(come):
        before = len(come)
        for thing in things:
            if id(thing) in come:
                come |= {id(x) for x in thing.fields if isinstance(x, Thing)}
    return come


def come_both(heap):
    young, old, roots = graph(heap)
    come = reached_from_roots(young + old, roots)
    return tuple(
        tuple(place for place, thing in enumerate(half) if id(thing) in come)
        for half in (young, old)
    )


def both_gone_through(young, old, roots):
    come = reached_from_roots(young + old, roots)
    return [x for x in young if id(x) in come], [x for x in old if id(x) in come]


def major(heap):
    young, old, roots = graph(heap)
    young, old = both_gone_through(young, old, roots)
    return told(young, old, roots)


def shape(heap):
    """What can be come to from the roots, wherever it lies (point 12)."""
    young, old, roots = graph(heap)
    order = []
    numbers = {}

    def values(row):
        out = []
        for x in row:
            if isinstance(x, Thing):
                if id(x) not in numbers:
                    numbers[id(x)] = len(order)
                    order.append(x)
                x = ("thing", numbers[id(x)])
            out.append(x)
        return tuple(out)

    first = values(roots)
    things = []
    while len(things) < len(order):
        things.append(values(order[len(things)].fields))
    return first, tuple(things)


NUMBERS_OF_ROOTS = {"make": 1, "set": 1, "put": 1, "take": 2, "look": 1, "same": 2}


def parts_of(deed):
    if deed[0] == "make":
        return deed[2]
    return deed[-1:] if deed[0] in ("set", "put") else ()


class Play:
    """A play on objects that refer to each other."""

    def __init__(self, many, room, patience):
        self.young, self.old, self.roots = [], [], [None] * many
        self.room, self.patience = room, patience

    def refusal(self, deed):
        word = deed[0]
        numbers = list(deed[1:1 + NUMBERS_OF_ROOTS.get(word, 0)])
        numbers += [part[1] for part in parts_of(deed) if isinstance(part, tuple)]
        if any(k not in range(len(self.roots)) for k in numbers):
            return "no root"
        if word in ("put", "take"):
            k, f = (deed[1], deed[2]) if word == "put" else deed[2:]
            thing = self.roots[k]
            if not isinstance(thing, Thing):
                return "no thing"
            if f not in range(len(thing.fields)):
                return "no field"
        return None

    def value(self, part):
        return self.roots[part[1]] if isinstance(part, tuple) else part

    def minor(self):
        self.young, self.old = gone_through(self.young, self.old, self.roots, self.patience)
        return "done"

    def major(self):
        self.young, self.old = both_gone_through(self.young, self.old, self.roots)
        return "done"

    def make(self, k, parts):
        if len(self.young) >= self.room:
            self.minor()
        self.young.append(Thing(0, [self.value(part) for part in parts]))
        self.roots[k] = self.young[-1]
        return "done"

    def set(self, k, part):
        self.roots[k] = self.value(part)
        return "done"

    def put(self, k, f, part):
        self.roots[k].fields[f] = self.value(part)
        return "done"

    def take(self, k, j, f):
        self.roots[k] = self.roots[j].fields[f]
        return "done"

    def look(self, k):
        held = self.roots[k]
        return ("thing", len(held.fields)) if isinstance(held, Thing) else held

    def same(self, k, j):
        return isinstance(self.roots[k], Thing) and self.roots[k] is self.roots[j]


def play(many, room, patience, deeds):
    state = Play(many, room, patience)
    answers = []
    for deed in deeds:
        refusal = state.refusal(deed)
        answers.append(refusal or getattr(state, deed[0])(*deed[1:]))
    return answers, told(state.young, state.old, state.roots)


def chance_value(chance, many_young, many_old):
    kind = chance.randrange(5)
    if kind == 0:
        return None
    if kind == 1:
        return chance.choice((0, 1, -1, 7, MOST, -MOST))
    if kind in (2, 3) and many_young:
        return ("young", chance.randrange(many_young))
    if many_old:
        return ("old", chance.randrange(many_old))
    return None


def chance_heap(chance):
    """A sound heap; the chance is seeded by the test, so each run sees the same ones."""
    many_young = chance.randrange(9)
    many_old = chance.randrange(9)

    def row(most):
        return tuple(
            chance_value(chance, many_young, many_old)
            for _ in range(chance.randrange(most))
        )

    young = tuple((chance.randrange(5), row(4)) for _ in range(many_young))
    old = tuple((chance.randrange(5), row(4)) for _ in range(many_old))
    return young, old, row(5), full_book(old)


def chance_part(chance, many):
    return chance.choice((None, 0, 1, -MOST, MOST) + (("root", chance.randrange(-1, many + 1)),) * 6)


def chance_deed(chance, many):
    """A deed, now and then one that can't be done; of made things, field 0 is mostly there."""

    def root():
        return chance.randrange(-1, many + 1) if chance.randrange(12) == 0 else chance.randrange(many)

    def field():
        return chance.choice((0, 0, 0, 1, 1, 2, -1))

    word = chance.choice(
        ("make",) * 5 + ("set", "put", "put", "put", "take", "take", "look", "same", "minor", "major")
    )
    if word == "make":
        return word, root(), tuple(chance_part(chance, many) for _ in range(chance.randrange(4)))
    if word == "set":
        return word, root(), chance_part(chance, many)
    if word == "put":
        return word, root(), field(), chance_part(chance, many)
    if word == "take":
        return word, root(), root(), field()
    return (word,) + tuple(root() for _ in range({"look": 1, "same": 2}.get(word, 0)))
