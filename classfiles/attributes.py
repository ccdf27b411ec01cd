"""Attributes: their heads, and the inside of Code."""

from classfiles.cursor import Cursor
from classfiles.refusals import demand
from classfiles.spelling import row_of
from classfiles.tags import CLASS

MOST_CODE = 65535


class Attribute:
    """An attribute's head: its name's number, where its bytes stand, how many they are."""

    def __init__(self, name, start, size):
        self.name = name
        self.start = start
        self.size = size


class Body:
    """The inside of a Code: start and size are those of the code's own bytes."""

    def __init__(self, stack, variables, start, size):
        self.stack = stack
        self.variables = variables
        self.start = start
        self.size = size
        self.attributes = []


def read_attributes(cursor, pool):
    """Reads how many attributes there are, and their heads."""
    size = cursor.unsigned(2)
    attributes = []
    while len(attributes) < size:
        attributes.append(read_attribute(cursor, pool))
    return attributes


def read_attribute(cursor, pool):
    """Reads one attribute's head and steps over its bytes."""
    place = cursor.place
    name = cursor.unsigned(2)
    demand(pool.is_text(name), 8, place)
    size = cursor.unsigned(4)
    start = cursor.skip(size)
    return Attribute(name, start, size)


def attributes_named(attributes, pool, word):
    """Answers those attributes that have this name."""
    wanted = row_of(word)
    return [attribute for attribute in attributes if pool.row(attribute.name) == wanted]


def read_body(pool, attribute):
    """Reads the inside of a Code as if the attribute had no end; its end is looked at last."""
    cursor = Cursor(pool.content, attribute.start)
    stack = cursor.unsigned(2)
    variables = cursor.unsigned(2)
    place = cursor.place
    size = cursor.unsigned(4)
    demand(1 <= size <= MOST_CODE, 15, place)
    body = Body(stack, variables, cursor.skip(size), size)
    read_handlers(cursor, pool, size)
    body.attributes = read_attributes(cursor, pool)
    demand(cursor.place == attribute.start + attribute.size, 14, attribute.start)
    return body


def read_handlers(cursor, pool, size):
    """Reads the handlers of a code that has so many bytes; nothing asks for them later."""
    left = cursor.unsigned(2)
    while left > 0:
        read_handler(cursor, pool, size)
        left -= 1


def read_handler(cursor, pool, size):
    """Reads one handler; its rules are looked at when all four numbers are read."""
    place = cursor.place
    first = cursor.unsigned(2)
    end = cursor.unsigned(2)
    target = cursor.unsigned(2)
    caught = cursor.unsigned(2)
    demand(first < end <= size and target < size, 15, place)
    demand(caught == 0 or pool.tag_of(caught) == CLASS, 8, place)
