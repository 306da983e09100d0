"""Plays: rows of deeds, done one by one on a heap."""

from movecollect.errors import NoField, NoRoot, NoThing
from movecollect.heaps import field, hold, made, put, refuse_no_root, started, thing_at
from movecollect.major import major
from movecollect.minor import minor

DONE = "done"


def play(many, room, patience, deeds):
    """The list of answers to the deeds, and the heap in the end."""
    heap = started(many)
    answers = []
    for deed in deeds:
        heap, answer = step(heap, room, patience, deed)
        answers.append(answer)
    return answers, heap


def step(heap, room, patience, deed):
    """The heap behind the deed, and its answer; the same heap where it can't be done."""
    try:
        return outcome(heap, room, patience, deed)
    except NoRoot:
        return heap, "no root"
    except NoThing:
        return heap, "no thing"
    except NoField:
        return heap, "no field"


def outcome(heap, room, patience, deed):
    """The heap behind the deed, and its answer; refused where it can't be done."""
    match deed:
        case ("make", k, parts):
            return made_at(heap, room, patience, k, parts), DONE
        case ("set", k, part):
            return hold(heap, k, meant(heap, part)), DONE
        case ("put", k, f, part):
            return put(heap, held(heap, k), f, meant(heap, part)), DONE
        case ("take", k, j, f):
            return taken(heap, k, j, f), DONE
        case ("look", k):
            return heap, looked(heap, held(heap, k))
        case ("same", k, j):
            return heap, same(held(heap, k), held(heap, j))
        case ("minor",):
            return minor(heap, patience), DONE
        case ("major",):
            return major(heap), DONE


def made_at(heap, room, patience, k, parts):
    """The heap in which root k holds a new thing, gone through ahead of it if room lacks."""
    # Nothing is gone through for a make that can't be done.
    for j in [k] + [part[1] for part in parts if isinstance(part, tuple)]:
        refuse_no_root(heap, j)
    ready = minor(heap, patience) if len(heap[0]) >= room else heap
    grown, pointer = made(ready, tuple([meant(ready, part) for part in parts]))
    return hold(grown, k, pointer)


def taken(heap, k, j, f):
    """The heap in which root k holds field f of the thing to which root j leads."""
    # The number of every root in a deed comes ahead of its thing and its field.
    refuse_no_root(heap, k)
    return hold(heap, k, field(heap, held(heap, j), f))


def held(heap, k):
    """The value that root k holds."""
    refuse_no_root(heap, k)
    return heap[2][k]


def meant(heap, part):
    """The value for which the part stands."""
    return held(heap, part[1]) if isinstance(part, tuple) else part


def looked(heap, value):
    """What a look tells of the value."""
    if not isinstance(value, tuple):
        return value
    _, fields = thing_at(heap, value)
    return "thing", len(fields)


def same(value, other):
    """Whether both values lead to one and the same thing."""
    return isinstance(value, tuple) and value == other
