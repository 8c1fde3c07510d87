"""The search through all that comes about by deeds, those that need fewer deeds first.

What it goes through, columns, pairs of columns or places, is up to whoever searches: starts is
a dict from the first of these things to keys, follow gives the thing after a thing and a deed,
and is_wrong tells whether a thing is what is searched for.
"""

# Values are only passed on, and the hooks know no others than 0 and 1: whatever
# deeds with any values bring to light, as many deeds with these values bring to light.
VALUES = (0, 1)
OWN_DEEDS = (("ask",), ("has",), ("write", 0), ("write", 1), ("forget",))
SHARED_DEEDS = (("beneath", 0), ("beneath", 1), ("beneath", None))


def compared_deeds(shared):
    """The deeds by which stacks are compared."""
    return OWN_DEEDS + SHARED_DEEDS if shared else OWN_DEEDS


def search(starts, deeds, follow, is_wrong):
    """The list of all things, and None; or what was found so far, and what is wrong.

    What is wrong is told as a triple of the thing, a key, and as few deeds as possible at it.
    """
    ways = {thing: (starts[thing], ()) for thing in starts}
    things = list(ways)
    at = 0
    while at < len(things):
        thing = things[at]
        key, before = ways[thing]
        if is_wrong(thing):
            return things, (thing, key, before)
        for deed in deeds:
            after = follow(thing, deed)
            if after not in ways:
                ways[after] = (key, before + (deed,))
                things.append(after)
        at += 1
    return things, None


def reached(starts, deeds, follow):
    """The list of all things that come about."""
    return search(starts, deeds, follow, lambda thing: False)[0]


def is_closed(things, starts, deeds, follow, is_wrong):
    """Whether the starts, and with each thing all after it, are among these things, and none is wrong."""
    listed = {thing: True for thing in things}
    if not all([thing in listed for thing in starts]) or any([is_wrong(thing) for thing in listed]):
        return False
    return all([follow(thing, deed) in listed for thing in listed for deed in deeds])
