"""Plain shapes that arguments are judged by: numbers, flags, names, lots of names, tuples of a size."""

NAME_MOST = 12
WANTED_MOST = 4


def is_integer(thing):
    """Whether a thing is an integer, which a flag is not."""
    return isinstance(thing, int) and not isinstance(thing, bool)


def is_number(thing):
    """Whether a thing is an integer from 0 on."""
    return is_integer(thing) and thing >= 0


def is_flag(thing):
    """Whether a thing is True or False."""
    return isinstance(thing, bool)


def is_name(thing):
    """Whether a thing is a string of 1 to 12 letters a to z."""
    if not isinstance(thing, str) or len(thing) > NAME_MOST:
        return False
    return thing.isascii() and thing.isalpha() and thing.islower()


def is_names(thing):
    """Whether a thing is a lot of names."""
    if not isinstance(thing, tuple):
        return False
    ahead = ""
    for name in thing:
        if not is_name(name) or name <= ahead:
            return False
        ahead = name
    return True


def is_wanted(thing):
    """Whether a thing is a lot of names, few enough to be wanted of one package."""
    return is_names(thing) and len(thing) <= WANTED_MOST


def is_tuple_of(many, thing):
    """Whether a thing is a tuple of just so many."""
    return isinstance(thing, tuple) and len(thing) == many


def is_tuple_within(most, thing):
    """Whether a thing is a tuple of at most so many."""
    return isinstance(thing, tuple) and len(thing) <= most


def is_flags(many, thing):
    """Whether a thing is a tuple of just so many flags."""
    if not is_tuple_of(many, thing):
        return False
    for flag in thing:
        if not is_flag(flag):
            return False
    return True
