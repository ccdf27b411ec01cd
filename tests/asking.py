"""Lists of calls for the tests, and their answers taken apart again."""

from classfiles.desk import answers

HEAD, COUNT, FACE, TAG, TEXT, NUMBER = 3, 4, 5, 6, 7, 8
PAIR, MEMBER, ATTR, CODE_OF, FIND, SLOTS, USES, TOLD = 9, 10, 11, 12, 13, 14, 15, 16
MOST = 4294967295


def read(content):
    return [1, len(content)] + content


def judge(content):
    return [2, len(content)] + content


def find(what, name, sort):
    """The call find; name and sort are words or bytes."""
    rows = [list(word.encode("utf-8")) if isinstance(word, str) else list(word) for word in (name, sort)]
    return [FIND, what, len(rows[0])] + rows[0] + [len(rows[1])] + rows[1]


def split(given):
    """The answers, each a list of its own."""
    lists = []
    at = 0
    while at < len(given):
        lists.append(given[at + 1:at + 1 + given[at]])
        at += 1 + given[at]
    if at != len(given):
        raise AssertionError(given)
    return lists


def asked(content, *calls):
    """What the calls are answered behind a read."""
    given = split(answers(read(content) + sum(calls, [])))
    if given[0] != [0] or len(given) != len(calls) + 1:
        raise AssertionError(given)
    return given[1:]


def asked_all(content, calls):
    """The same of any number of calls, in lists of 40 calls at most."""
    given = []
    for k in range(0, len(calls), 39):
        given.extend(asked(content, *calls[k:k + 39]))
    return given
