"""A whole file, read from its first byte to its last."""

from classfiles.attributes import read_attributes
from classfiles.cursor import Cursor
from classfiles.links import check_pool
from classfiles.members import read_field, read_members, read_method
from classfiles.pool import read_pool
from classfiles.refusals import demand
from classfiles.spelling import is_array
from classfiles.tags import CLASS

MAGIC = 0xCAFEBABE
FIRST_MAJOR = 45
LAST_MAJOR = 65
FINAL = 0x10
INTERFACE = 0x200
ABSTRACT = 0x400


class ClassFile:
    """What stands in a file that keeps all rules."""

    def __init__(self, minor, major, pool):
        self.minor = minor
        self.major = major
        self.pool = pool
        self.flags = 0
        self.this_class = 0
        self.super_class = 0
        self.interfaces = []
        self.fields = []
        self.methods = []
        self.attributes = []


def read_file(content):
    """Reads the bytes whole, or ends with the first rule that they break."""
    cursor = Cursor(content, 0)
    whole = read_start(cursor)
    check_pool(whole.pool)
    whole.flags = read_flags(cursor)
    whole.this_class = read_class_number(cursor, whole.pool, False)
    whole.super_class = read_class_number(cursor, whole.pool, True)
    whole.interfaces = read_interfaces(cursor, whole.pool)
    whole.fields = read_members(cursor, whole.pool, read_field)
    whole.methods = read_members(cursor, whole.pool, read_method)
    whole.attributes = read_attributes(cursor, whole.pool)
    demand(cursor.place == len(content), 17, cursor.place)
    return whole


def read_start(cursor):
    """Reads what stands before the flags."""
    demand(cursor.unsigned(4) == MAGIC, 2, 0)
    minor = cursor.unsigned(2)
    place = cursor.place
    major = cursor.unsigned(2)
    demand(FIRST_MAJOR <= major <= LAST_MAJOR, 3, place)
    return ClassFile(minor, major, read_pool(cursor))


def read_flags(cursor):
    """Reads the file's flags."""
    place = cursor.place
    flags = cursor.unsigned(2)
    if flags & ABSTRACT:
        demand(not flags & FINAL, 12, place)
    else:
        demand(not flags & INTERFACE, 12, place)
    return flags


def read_class_number(cursor, pool, may_be_none):
    """Reads a number that must be that of a class, but no array's; or 0, where that may be."""
    place = cursor.place
    number = cursor.unsigned(2)
    if number == 0 and may_be_none:
        return number
    demand(pool.tag_of(number) == CLASS, 8, place)
    demand(not is_array(pool.first_row(number)), 9, place)
    return number


def read_interfaces(cursor, pool):
    """Reads how many interfaces there are, and their numbers."""
    size = cursor.unsigned(2)
    interfaces = []
    seen = {}
    while len(interfaces) < size:
        place = cursor.place
        number = read_class_number(cursor, pool, False)
        name = tuple(pool.first_row(number))
        demand(name not in seen, 13, place)
        seen[name] = True
        interfaces.append(number)
    return interfaces
