"""Bits: sets of things of a list as numbers, with a bit for each thing."""


def bits_of(flags):
    """Return the number whose bits are set where flags are True."""
    return sum([1 << place for place, flag in enumerate(flags) if flag])


def picked(things, bits):
    """Return the list of the things whose bits are set."""
    return [thing for place, thing in enumerate(things) if bits >> place & 1]
