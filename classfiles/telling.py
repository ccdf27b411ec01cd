"""Constants told as rows of bytes, once all of a file's rules are kept."""

from classfiles.spelling import row_of


def tell_text(pool, number):
    """A text is told as it stands."""
    return pool.row(number)


def tell_first(pool, number):
    """A class, a string and a method's descriptor are told by the text they name."""
    return pool.first_row(number)


def tell_named(pool, number):
    """A name with a descriptor: the name, a colon, the descriptor."""
    return pool.first_row(number) + row_of(":") + pool.second_row(number)


def tell_call_site(pool, number):
    """A call site is told by its name with a descriptor alone."""
    return tell_named(pool, pool.constants[number].second)


def tell_owned(pool, number):
    """A field or method: its class's name, a point, its name with a descriptor."""
    owned = pool.constants[number]
    return pool.first_row(owned.first) + row_of(".") + tell_named(pool, owned.second)


# By tag; plain numbers and handles are not told.
TELLERS = {
    1: tell_text,
    7: tell_first,
    8: tell_first,
    9: tell_owned,
    10: tell_owned,
    11: tell_owned,
    12: tell_named,
    16: tell_first,
    18: tell_call_site,
}


def can_be_told(pool, number):
    """Tells whether there is a constant with this number, and of a tag that is told."""
    return pool.tag_of(number) in TELLERS


def tell(pool, number):
    """Answers the row by which the constant with this number is told."""
    return TELLERS[pool.tag_of(number)](pool, number)
