"""Copies of values of any kind, for what is kept of arguments and what is returned of them."""


def fresh(value):
    """Return a copy of a value that shares no list and no dict with it."""
    # No recursion: an argument that is refused may be nested to any depth, and is logged all the same.
    pile = []
    for part in parts_of(value)[::-1]:
        start = len(pile) - len(items_of(part))
        items = pile[start:]
        del pile[start:]
        pile.append(rebuilt(part, items))
    return pile[0]


def parts_of(value):
    """Return a value and all that is in it: each part before its items, and the last item first."""
    listed = []
    waiting = [value]
    while len(waiting) > 0:
        part = waiting.pop()
        listed.append(part)
        waiting.extend(items_of(part))
    return listed


def items_of(part):
    """Return the items of a list or a tuple, or the values of a dict."""
    if isinstance(part, (list, tuple)):
        return list(part)
    if isinstance(part, dict):
        return list(part.values())
    return []


def rebuilt(part, items):
    """Return a value of the kind of a part, with other items."""
    if isinstance(part, tuple):
        return tuple(items)
    if isinstance(part, list):
        return items
    if isinstance(part, dict):
        return {key: item for key, item in zip(part, items)}
    return part
