"""Copies of values, so that nobody outside changes what an object holds."""


def kept(value):
    """The value with new lists in place of its lists, also of those within it."""
    if isinstance(value, list):
        return [kept(item) for item in value]
    if isinstance(value, tuple):
        return tuple([kept(item) for item in value])
    return value


def frozen(value):
    """The value with tuples in place of its lists, also of those within it."""
    if isinstance(value, (list, tuple)):
        return tuple([frozen(item) for item in value])
    return value
