"""Values that members of what has a fault may be."""


def deep(kind, levels):
    """A tuple or a list in so many others."""
    value = kind()
    for _ in range(levels):
        value = kind([value])
    return value
