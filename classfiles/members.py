"""Fields and methods."""

from classfiles.attributes import attributes_named, read_attributes, read_body
from classfiles.cursor import Cursor
from classfiles.refusals import demand
from classfiles.spelling import gives_nothing, is_field_descriptor, is_init, is_method_descriptor
from classfiles.spelling import is_method_name, is_simple_name, row_of
from classfiles.tags import DOUBLE, FLOATING, INTEGER, LONG, STRING

FINAL_VOLATILE = 0x50
ABSTRACT = 0x400
# What a method without code of its own can't be: 2, 8, 10H, 20H, 100H, 800H.
NOT_ABSTRACT = 0x93A
# Abstract or native.
WITHOUT_CODE = 0x500


class Member:
    """A field or method: the place of its flags, its numbers, its attributes, and a method's inside of Code."""

    def __init__(self, place, flags, name, descriptor):
        self.place = place
        self.flags = flags
        self.name = name
        self.descriptor = descriptor
        self.attributes = []
        self.body = None


def read_members(cursor, pool, read_member):
    """Reads how many fields or methods there are, and each of them by read_field or read_method."""
    size = cursor.unsigned(2)
    members = []
    seen = {}
    while len(members) < size:
        members.append(read_member(cursor, pool, seen))
    return members


def read_field(cursor, pool, seen):
    """Reads one field; seen holds the names and descriptors of those before it."""
    place = cursor.place
    flags = cursor.unsigned(2)
    demand(has_one_access(flags) and (flags & FINAL_VOLATILE) != FINAL_VOLATILE, 12, place)
    name = read_text_number(cursor, pool)
    demand(is_simple_name(pool.row(name)), 9, place + 2)
    descriptor = read_text_number(cursor, pool)
    demand(is_field_descriptor(pool.row(descriptor)), 10, place + 4)
    field = Member(place, flags, name, descriptor)
    check_first(pool, field, seen)
    field.attributes = read_attributes(cursor, pool)
    check_value(pool, field)
    return field


def read_method(cursor, pool, seen):
    """Reads one method; seen holds the names and descriptors of those before it."""
    place = cursor.place
    flags = cursor.unsigned(2)
    demand(has_one_access(flags) and not (flags & ABSTRACT and flags & NOT_ABSTRACT), 12, place)
    name = read_text_number(cursor, pool)
    demand(is_method_name(pool.row(name)), 9, place + 2)
    descriptor = read_text_number(cursor, pool)
    row = pool.row(descriptor)
    demand(is_method_descriptor(row) and (gives_nothing(row) or not is_init(pool.row(name))), 10, place + 4)
    method = Member(place, flags, name, descriptor)
    check_first(pool, method, seen)
    method.attributes = read_attributes(cursor, pool)
    codes = attributes_named(method.attributes, pool, "Code")
    demand(len(codes) == (0 if flags & WITHOUT_CODE else 1), 16, place)
    for code in codes:
        method.body = read_body(pool, code)
    return method


def has_one_access(flags):
    """Tells whether one at most of public, private and protected is set."""
    return (flags & 7) in (0, 1, 2, 4)


def read_text_number(cursor, pool):
    """Reads a number that must be a text's."""
    place = cursor.place
    number = cursor.unsigned(2)
    demand(pool.is_text(number), 8, place)
    return number


def check_first(pool, member, seen):
    """No member before this one has the same name and the same descriptor, as texts."""
    key = (tuple(pool.row(member.name)), tuple(pool.row(member.descriptor)))
    demand(key not in seen, 13, member.place)
    seen[key] = True


def check_value(pool, field):
    """A field has one ConstantValue at most, and that one is fit for its descriptor."""
    values = attributes_named(field.attributes, pool, "ConstantValue")
    demand(len(values) <= 1, 13, field.place)
    for value in values:
        demand(value.size == 2, 14, value.start)
        number = Cursor(pool.content, value.start).unsigned(2)
        tag = pool.tag_of(number)
        demand(tag != 0 and tag == value_tag(pool.row(field.descriptor)), 8, value.start)


def value_tag(descriptor):
    """Answers the tag of the constants that are fit for a field's descriptor, 0 if none are."""
    if descriptor == row_of("Ljava/lang/String;"):
        return STRING
    if descriptor == row_of("J"):
        return LONG
    if descriptor == row_of("F"):
        return FLOATING
    if descriptor == row_of("D"):
        return DOUBLE
    # It is a field's descriptor, so one sign alone is B, C, I, S or Z here.
    return INTEGER if len(descriptor) == 1 else 0
