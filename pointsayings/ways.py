"""Ways from one place to another: a tuple, so much across, so much up."""


def way(a, b):
    return (b[0] - a[0], b[1] - a[1])


def turn(first, second):
    """How the ways turn against each other: 0 if they're parallel."""
    return first[0] * second[1] - first[1] * second[0]


def lean(first, second):
    """How the ways lean on each other: 0 if they're at right angles."""
    return first[0] * second[0] + first[1] * second[1]


def multiplied(first, second):
    across = first[0] * second[0] - first[1] * second[1]
    up = first[0] * second[1] + first[1] * second[0]
    return (across, up)


def square(one):
    """The square of how long the way is."""
    return lean(one, one)
