"""The calls that ask about the file that is held.

Each is a function of the file, the call's whole numbers and its rows; it answers a list of numbers.
"""

from classfiles.links import names_constant
from classfiles.refusals import NotThere
from classfiles.spelling import argument_slots
from classfiles.tags import DOUBLE, FLOATING, INTEGER, LONG, TEXT
from classfiles.telling import can_be_told, tell

# What a call's first number, what, asks for.
OF_FIELD = 1
OF_METHOD = 2
OF_FILE = 3
OF_CODE = 4
# The tags of the constants that have one or two small numbers.
PAIRED = (7, 8, 9, 10, 11, 12, 15, 16, 18)


def pick(values, number):
    """Answers the value with this number, counted from 0."""
    if number >= len(values):
        raise NotThere()
    return values[number]


def pick_constant(held, number, tags):
    """Answers the constant with this number, if its tag is one of these."""
    if held.pool.tag_of(number) not in tags:
        raise NotThere()
    return held.pool.constants[number]


def pick_members(held, what):
    """Answers the fields or the methods, whichever are asked for."""
    if what == OF_FIELD:
        return held.fields
    if what == OF_METHOD:
        return held.methods
    raise NotThere()


def pick_body(held, number):
    """Answers the inside of Code of the method with this number."""
    body = pick(held.methods, number).body
    if body is None:
        raise NotThere()
    return body


def pick_attributes(held, what, number):
    """Answers the attributes of what is asked for; the file is but one, whatever the number."""
    if what == OF_FILE:
        return held.attributes
    if what == OF_CODE:
        return pick_body(held, number).attributes
    return pick(pick_members(held, what), number).attributes


def answer_head(held, numbers, rows):
    """Call 3, head."""
    size = len(held.pool.constants)
    return [0, held.minor, held.major, held.flags, held.this_class, held.super_class, size]


def answer_count(held, numbers, rows):
    """Call 4, count."""
    counted = [held.interfaces, held.fields, held.methods, held.attributes]
    return [len(pick(counted, numbers[0]))]


def answer_face(held, numbers, rows):
    """Call 5, face."""
    return [pick(held.interfaces, numbers[0])]


def answer_tag(held, numbers, rows):
    """Call 6, tag."""
    tag = held.pool.tag_of(numbers[0])
    if tag == 0:
        raise NotThere()
    return [tag]


def answer_text(held, numbers, rows):
    """Call 7, text."""
    text = pick_constant(held, numbers[0], (TEXT,))
    return [0, text.first, text.second]


def answer_number(held, numbers, rows):
    """Call 8, number."""
    constant = pick_constant(held, numbers[0], (INTEGER, FLOATING, LONG, DOUBLE))
    return [0, constant.first]


def answer_pair(held, numbers, rows):
    """Call 9, pair."""
    constant = pick_constant(held, numbers[0], PAIRED)
    return [0, constant.first, constant.second]


def answer_member(held, numbers, rows):
    """Call 10, member."""
    member = pick(pick_members(held, numbers[0]), numbers[1])
    return [0, member.flags, member.name, member.descriptor, len(member.attributes)]


def answer_attr(held, numbers, rows):
    """Call 11, attr."""
    attribute = pick(pick_attributes(held, numbers[0], numbers[1]), numbers[2])
    return [0, attribute.name, attribute.start, attribute.size]


def answer_code(held, numbers, rows):
    """Call 12, code."""
    body = pick_body(held, numbers[0])
    return [0, body.stack, body.variables, body.start, body.size]


def answer_find(held, numbers, rows):
    """Call 13, find."""
    for number, member in enumerate(pick_members(held, numbers[0])):
        if held.pool.row(member.name) == rows[0] and held.pool.row(member.descriptor) == rows[1]:
            return [number]
    raise NotThere()


def answer_slots(held, numbers, rows):
    """Call 14, slots."""
    method = pick(held.methods, numbers[0])
    return [argument_slots(held.pool.row(method.descriptor))]


def answer_uses(held, numbers, rows):
    """Call 15, uses."""
    named = numbers[0]
    if held.pool.tag_of(named) == 0:
        raise NotThere()
    users = [number for number, constant in enumerate(held.pool.constants) if names_constant(constant, named)]
    return [len(users)] + users


def answer_told(held, numbers, rows):
    """Call 16, told."""
    if not can_be_told(held.pool, numbers[0]):
        raise NotThere()
    row = tell(held.pool, numbers[0])
    return [len(row)] + row


# By a call's number.
ANSWERS = {
    3: answer_head,
    4: answer_count,
    5: answer_face,
    6: answer_tag,
    7: answer_text,
    8: answer_number,
    9: answer_pair,
    10: answer_member,
    11: answer_attr,
    12: answer_code,
    13: answer_find,
    14: answer_slots,
    15: answer_uses,
    16: answer_told,
}


def ask(held, call, numbers, rows):
    """Answers the call with this number."""
    return ANSWERS[call](held, numbers, rows)
