"""The desk: a list of calls is handed in, the list of their answers is given back."""

from classfiles.asks import ask
from classfiles.refusals import NoFileHeld, NotThere, RuleBroken, TooManyBytes
from classfiles.whole import read_file

READ = 1
JUDGE = 2
MOST_BYTES = 4096

# By a call's number: how many whole numbers stand behind it, then how many rows.
FORMS = {
    1: (0, 1),
    2: (0, 1),
    3: (0, 0),
    4: (1, 0),
    5: (1, 0),
    6: (1, 0),
    7: (1, 0),
    8: (1, 0),
    9: (1, 0),
    10: (2, 0),
    11: (3, 0),
    12: (1, 0),
    13: (1, 2),
    14: (1, 0),
    15: (1, 0),
    16: (1, 0),
}


class Desk:
    """The file that is held, None while there is none."""

    def __init__(self):
        self.held = None


class CallList:
    """A list of calls and how far it is gone through."""

    def __init__(self, calls):
        self.calls = calls
        self.at = 0

    def is_through(self):
        """Tells whether no call is left."""
        return self.at >= len(self.calls)

    def take_number(self):
        """Takes the next number."""
        number = self.calls[self.at]
        self.at += 1
        return number

    def take_numbers(self, size):
        """Takes so many numbers, as a list of their own."""
        numbers = self.calls[self.at:self.at + size]
        self.at += size
        return numbers

    def take_rows(self, size):
        """Takes so many rows, each with how many numbers it has before it."""
        rows = []
        while len(rows) < size:
            rows.append(self.take_numbers(self.take_number()))
        return rows


def answers(calls):
    """Answers the calls one behind another, on a desk that is new."""
    desk = Desk()
    left = CallList(calls)
    given = []
    while not left.is_through():
        call = left.take_number()
        numbers = left.take_numbers(FORMS[call][0])
        rows = left.take_rows(FORMS[call][1])
        answer = answer_call(desk, call, numbers, rows)
        given.append(len(answer))
        given.extend(answer)
    return given


def answer_call(desk, call, numbers, rows):
    """Answers one call, a refusal by its number alone."""
    try:
        return carry_out(desk, call, numbers, rows)
    except RuleBroken as broken:
        return [broken.rule, broken.place]
    except TooManyBytes:
        return [-2]
    except NoFileHeld:
        return [-3]
    except NotThere:
        return [-1]


def carry_out(desk, call, numbers, rows):
    """Carries one call out; the desk is changed only by a read that has come to its end."""
    if call in (READ, JUDGE):
        whole = read_short_file(rows[0])
        if call == READ:
            desk.held = whole
        return [0]
    if desk.held is None:
        raise NoFileHeld()
    return ask(desk.held, call, numbers, rows)


def read_short_file(content):
    """Reads a file, unless it has more bytes than a file may have."""
    if len(content) > MOST_BYTES:
        raise TooManyBytes()
    return read_file(content)
