"""The calls that ask about the file that is held.

Each is a function of the file, the call's whole numbers and its rows; it answers a list of numbers.
"""

from classfiles.refusals import NotThere
from classfiles.tags import DOUBLE, FLOATING, INTEGER, LONG, TEXT


def pick(values, number):
    """Answers the value with this number, counted from 0."""
    if number >= len(values):
        raise NotThere()
    return values[number]


def pick_constant(held, number, tags):
    """Answers the constant with this number, if its tag is one of these."""
    if held.pool.tag_of(number) not in tags:
        raise NotThere()
    return held.pool.constants[number]


def answer_head(held, numbers, rows):
    """Call 3, head."""
    size = len(held.pool.constants)
    return [0, held.minor, held.major, held.flags, held.this_class, held.super_class, size]


def answer_count(held, numbers, rows):
    """Call 4, count."""
    counted = [held.interfaces, held.fields, held.methods, held.attributes]
    return [len(pick(counted, numbers[0]))]


def answer_face(held, numbers, rows):
    """Call 5, face."""
    return [pick(held.interfaces, numbers[0])]


def answer_tag(held, numbers, rows):
    """Call 6, tag."""
    tag = held.pool.tag_of(numbers[0])
    if tag == 0:
        raise NotThere()
    return [tag]


def answer_text(held, numbers, rows):
    """Call 7, text."""
    text = pick_constant(held, numbers[0], (TEXT,))
    return [0, text.first, text.second]


def answer_number(held, numbers, rows):
    """Call 8, number."""
    constant = pick_constant(held, numbers[0], (INTEGER, FLOATING, LONG, DOUBLE))
    return [0, constant.first]


# By a call's number.
ANSWERS = {
    3: answer_head,
    4: answer_count,
    5: answer_face,
    6: answer_tag,
    7: answer_text,
    8: answer_number,
}


def ask(held, call, numbers, rows):
    """Answers the call with this number."""
    return ANSWERS[call](held, numbers, rows)
