"""What constants name, looked at by number when all of them are read."""

from classfiles.refusals import demand
from classfiles.spelling import gives_nothing, is_array, is_class_name, is_field_descriptor, is_init
from classfiles.spelling import is_method_descriptor, is_plain_method_name, is_simple_name
from classfiles.tags import CLASS, METHOD

# By a handle's kind, the tags that its constant may have.
HANDLED = {
    1: (9,),
    2: (9,),
    3: (9,),
    4: (9,),
    5: (10,),
    6: (10, 11),
    7: (10, 11),
    8: (10,),
    9: (11,),
}
# The tags whose first or second number is a constant's: a handle's kind and a call site's first number are none.
FIRST_NAMES = (7, 8, 9, 10, 11, 12, 16)
SECOND_NAMES = (9, 10, 11, 12, 15, 18)


def names_constant(constant, number):
    """Tells whether the constant, None where there is none, names the one with this number."""
    if constant is None:
        return False
    if constant.tag in FIRST_NAMES and constant.first == number:
        return True
    return constant.tag in SECOND_NAMES and constant.second == number


def check_class(pool, constant):
    """A class has a class's name, or an array's descriptor in its place."""
    demand(pool.is_text(constant.first), 8, constant.place)
    row = pool.row(constant.first)
    fits = is_field_descriptor(row) if is_array(row) else is_class_name(row)
    demand(fits, 9, constant.place)


def check_string(pool, constant):
    """A string names a text, whatever it says."""
    demand(pool.is_text(constant.first), 8, constant.place)


def check_named(pool, constant):
    """A name with a descriptor may be a field's or a method's."""
    demand(pool.is_text(constant.first) and pool.is_text(constant.second), 8, constant.place)
    demand(is_simple_name(pool.row(constant.first)), 9, constant.place)
    row = pool.row(constant.second)
    demand(is_field_descriptor(row) or is_method_descriptor(row), 10, constant.place)


def check_field(pool, constant):
    """A field is of a class and has a field's descriptor; its name is looked at where it stands."""
    check_owner(pool, constant)
    demand(is_field_descriptor(pool.second_row(constant.second)), 10, constant.place)


def check_method(pool, constant):
    """A method, of a class or an interface, has a method's descriptor and a name that may be called."""
    check_owner(pool, constant)
    descriptor = pool.second_row(constant.second)
    demand(is_method_descriptor(descriptor), 10, constant.place)
    name = pool.first_row(constant.second)
    if is_init(name):
        fits = constant.tag == METHOD and gives_nothing(descriptor)
    else:
        fits = is_plain_method_name(name)
    demand(fits, 9, constant.place)


def check_owner(pool, constant):
    """A field or method names its class, then its name with a descriptor."""
    demand(pool.tag_of(constant.first) == CLASS, 8, constant.place)
    demand(pool.is_named(constant.second), 8, constant.place)


def check_handle(pool, constant):
    """A handle has a kind, and its constant is one of that kind."""
    demand(constant.first in HANDLED, 11, constant.place)
    demand(pool.tag_of(constant.second) in HANDLED[constant.first], 8, constant.place)


def check_signature(pool, constant):
    """A constant of tag 16 names a method's descriptor."""
    demand(pool.is_text(constant.first), 8, constant.place)
    demand(is_method_descriptor(pool.row(constant.first)), 10, constant.place)


def check_call_site(pool, constant):
    """A call site has a method's descriptor and a plain method's name; its first number is free."""
    demand(pool.is_named(constant.second), 8, constant.place)
    demand(is_method_descriptor(pool.second_row(constant.second)), 10, constant.place)
    demand(is_plain_method_name(pool.first_row(constant.second)), 9, constant.place)


# By tag; texts and plain numbers name nothing.
CHECKS = {
    7: check_class,
    8: check_string,
    9: check_field,
    10: check_method,
    11: check_method,
    12: check_named,
    15: check_handle,
    16: check_signature,
    18: check_call_site,
}


def check_pool(pool):
    """Goes through the constants by number and looks at what each of them names."""
    for constant in pool.constants:
        if constant is not None and constant.tag in CHECKS:
            CHECKS[constant.tag](pool, constant)
