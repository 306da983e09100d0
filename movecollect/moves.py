"""Things that change places, and the pointers that follow them."""


def follow(now, half, places, target, first):
    """Note in now what becomes of the pointers to these places of a half.

    The things there come behind each other in the target half, from place first on.
    Pointers that stay the same are not noted.
    """
    for at, place in enumerate(places):
        pointer = (target, first + at)
        if pointer != (half, place):
            now[(half, place)] = pointer


def led(values, now):
    """The values, each pointer that now tells of led to its new place."""
    # Often nothing has changed its place, and rows may be long and many.
    if not now:
        return values
    return tuple([now.get(value, value) for value in values])


def carried(half, places, now, years):
    """The things at these places, so many years older, their pointers led."""
    return tuple([(half[place][0] + years, led(half[place][1], now)) for place in places])
