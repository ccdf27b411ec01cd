"""The constants of a file: reading them, and what stands under a number."""

from classfiles.refusals import demand
from classfiles.spelling import is_character_row
from classfiles.tags import DOUBLE, LONG, NAMED, TEXT

# By tag, the widths of a constant's one or two numbers; a text's is its length.
WIDTHS = {
    1: (2, 0),
    3: (4, 0),
    4: (4, 0),
    5: (8, 0),
    6: (8, 0),
    7: (2, 0),
    8: (2, 0),
    9: (2, 2),
    10: (2, 2),
    11: (2, 2),
    12: (2, 2),
    15: (1, 2),
    16: (2, 0),
    18: (2, 2),
}


class Constant:
    """One constant and the place of its tag.

    Of a text, first is where its bytes stand and second how many they are;
    of the others they are its numbers in their order, 0 where it has but one.
    """

    def __init__(self, tag, place, first, second):
        self.tag = tag
        self.place = place
        self.first = first
        self.second = second


class Pool:
    """The constants of a file by their numbers, None under a number that is none."""

    def __init__(self, content, constants):
        self.content = content
        self.constants = constants

    def tag_of(self, number):
        """Answers the tag of the constant with this number, 0 if there is none."""
        if number >= len(self.constants) or self.constants[number] is None:
            return 0
        return self.constants[number].tag

    def is_text(self, number):
        """Tells whether the number is a text's."""
        return self.tag_of(number) == TEXT

    def row(self, number):
        """Answers the bytes of the text with this number."""
        text = self.constants[number]
        return self.content[text.first:text.first + text.second]

    def is_named(self, number):
        """Tells whether the number is that of a name with a descriptor, both of them texts."""
        if self.tag_of(number) != NAMED:
            return False
        named = self.constants[number]
        return self.is_text(named.first) and self.is_text(named.second)

    def first_row(self, number):
        """Answers the bytes of the text that the constant with this number names first."""
        return self.row(self.constants[number].first)

    def second_row(self, number):
        """Answers the bytes of the text that the constant with this number names second."""
        return self.row(self.constants[number].second)


def read_pool(cursor):
    """Reads count and the constants, each by itself: what they name is looked at later."""
    place = cursor.place
    size = cursor.unsigned(2)
    demand(size > 0, 4, place)
    constants = [None]
    while len(constants) < size:
        constant = read_constant(cursor)
        constants.append(constant)
        if constant.tag in (LONG, DOUBLE):
            demand(len(constants) < size, 7, constant.place)
            constants.append(None)
    return Pool(cursor.content, constants)


def read_constant(cursor):
    """Reads one constant."""
    place = cursor.place
    tag = cursor.unsigned(1)
    demand(tag in WIDTHS, 5, place)
    first = cursor.unsigned(WIDTHS[tag][0])
    if tag == TEXT:
        return read_text(cursor, place, first)
    second = cursor.unsigned(WIDTHS[tag][1])
    return Constant(tag, place, first, second)


def read_text(cursor, place, size):
    """Reads a text's bytes, of which there are so many."""
    start = cursor.skip(size)
    demand(is_character_row(cursor.content[start:start + size]), 6, place)
    return Constant(TEXT, place, start, size)
