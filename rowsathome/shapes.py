"""What single values are: numbers, NAMES, tuples of some length, sets."""

LONGEST_NAME = 8


def frozen(given):
    """Return given with a tuple in the place of each list, at any depth."""
    if isinstance(given, (list, tuple)):
        return tuple([frozen(part) for part in given])
    return given


def is_number(thing):
    """Tell whether thing is a number: True and False are none."""
    return isinstance(thing, int) and not isinstance(thing, bool)


def is_name(thing):
    """Tell whether thing is a NAME."""
    if not isinstance(thing, str) or not 1 <= len(thing) <= LONGEST_NAME:
        return False
    return all(["a" <= letter <= "z" for letter in thing])


def are_names(things):
    """Tell whether all these things, of a list or a tuple, are NAMES."""
    return all([is_name(part) for part in things])


def is_tuple_of(thing, many):
    """Tell whether thing is a tuple of so many members."""
    return isinstance(thing, tuple) and len(thing) == many


def is_ascending(members):
    """Tell whether members, that can be compared, ascend and none is there twice."""
    return all([members[at] < members[at + 1] for at in range(len(members) - 1)])


def is_set_of(thing, fits):
    """Tell whether thing is a set of members of each of which fits tells True.

    Members that do not fit may not be comparable, so the order is looked at last.
    """
    return isinstance(thing, tuple) and all([fits(part) for part in thing]) and is_ascending(thing)
