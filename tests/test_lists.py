"""Lists of calls: each answers of the file that is held when its turn comes, and what's refused changes nothing."""

import unittest

from asking import ATTR, CODE_OF, COUNT, FACE, FIND, HEAD, MEMBER, MOST, NUMBER, PAIR, SLOTS, TAG, TEXT, TOLD, USES
from asking import asked_all, find, judge, read, split
from classfiles.desk import answers
from maker import Maker, full_maker
from model import Model
from small import SMALL

EDGES = (0, 1, 2, 3, 4, 5, 255, 256, 65535, 65536, MOST - 1, MOST)
ONE_NUMBER = (COUNT, FACE, TAG, TEXT, NUMBER, PAIR, CODE_OF, SLOTS, USES, TOLD)
REFUSED = (
    [COUNT, 4], [FACE, MOST], [TAG, 0], [TEXT, 0], [NUMBER, 0], [PAIR, 0], [PAIR, MOST], [MEMBER, 0, 0],
    [MEMBER, 1, MOST], [MEMBER, 2, MOST], [MEMBER, 3, 0], [ATTR, 0, 0, 0], [ATTR, 1, MOST, 0], [ATTR, 2, 0, MOST],
    [ATTR, 3, 0, MOST], [ATTR, 4, MOST, 0], [ATTR, 5, 0, 0], [CODE_OF, MOST], find(0, "x", "I"), find(1, "", ""),
    find(2, [0], [255]), find(MOST, [], []), [SLOTS, MOST], [USES, 0], [USES, MOST], [TOLD, 0], [TOLD, MOST],
)


def handle_maker():
    """A file of other numbers than full_maker's: no interface, methods with much in their codes."""
    m = Maker()
    m.major, m.minor, m.flags = 65, 65535, 0x20
    m.parent = 0
    m.raw_text("")
    named = m.named("g", "(LJ;[DJ)V")
    m.handle(7, m.two(11, m.this, named))
    m.two(18, named, named)
    m.two(18, m.this, named)
    m.two(12, m.text("I"), m.text("I"))
    m.constant(6, (MOST, 8))
    inner = [m.attribute("X", [k] * k) for k in range(4)]
    m.method(9, "g", "(LJ;[DJ)V", m.attribute("X"), m.code(row=[0] * 260, attributes=inner, handlers=[(0, 260, 1, 0)]))
    m.method(2, "g", "(J)V", m.code(stack=0, variables=0, row=[1], attributes=inner[:1]), m.attribute("Y", [1, 2]))
    m.method(0x102, "g", "()V")
    m.field(0x40, "g", "J")
    m.long()
    return m


def contents():
    return [SMALL, full_maker().build().content, Maker().build().content, handle_maker().build().content]


def parts_of(call):
    """A call's whole numbers and rows, as they are handed to the model."""
    if call[0] != FIND:
        return call[1:]
    end = 3 + call[2]
    return [call[1], call[3:end], call[end + 1:]]


def every_call(content):
    """Calls on every constant, member and attribute there is, and on what isn't there."""
    model = Model(content)
    numbers = list(range(model.size + 3)) + [255, 256, 65535, 65536, MOST]
    calls = [[HEAD]] + [[call, number] for call in ONE_NUMBER for number in numbers]
    calls += [[MEMBER, what, k] for what in EDGES for k in list(range(12)) + [65535, 65536, MOST]]
    calls += [[ATTR, what, k, j] for what in range(6) for k in range(12) for j in range(5)]
    calls += [[ATTR, what, k, j] for what in EDGES for k in (0, 1, MOST) for j in (0, 1, MOST)]
    words = [model.word(i) for i in model.pool if model.pool[i][0] == 1]
    pairs = [(model.word(head[1]), model.word(head[2])) for what in (1, 2) for head, inner in model.members[what]]
    pairs += [(a, b) for a in words[::5] for b in words[::7]] + [(b, a) for a, b in pairs] + [(b"", b"")]
    return calls + [find(what, a, b) for what in (0, 1, 2, 3) for a, b in pairs]


class Everything(unittest.TestCase):
    def test_every_call_on_every_file(self):
        for content in contents():
            model = Model(content)
            calls = every_call(content)
            for call, given in zip(calls, asked_all(content, calls)):
                if given != model.answer(call[0], *parts_of(call)):
                    self.assertEqual(given, model.answer(call[0], *parts_of(call)), call)

    def test_answers_of_all_sorts_are_among_them(self):
        for call in range(4, 17):
            given = [answer for content in contents() for answer in
                     asked_all(content, [one for one in every_call(content) if one[0] == call])]
            self.assertIn([-1], given)
            self.assertTrue([answer for answer in given if answer[0] >= 0], call)


class NothingHeld(unittest.TestCase):
    CALLS = [[HEAD]] + [[call, number] for call in ONE_NUMBER for number in EDGES] + [
        [MEMBER, what, k] for what in EDGES for k in (0, MOST)] + [
        [ATTR, what, k, 0] for what in EDGES for k in (0, MOST)] + [
        find(what, name, sort) for what in EDGES for name, sort in (("", ""), ("x", "I"), ([0], [255] * 9))]

    def test_each_alone(self):
        for call in self.CALLS:
            self.assertEqual(answers(call), [1, -3], call)

    def test_behind_one_another(self):
        for k in range(0, len(self.CALLS), 40):
            calls = self.CALLS[k:k + 40]
            self.assertEqual(answers(sum(calls, [])), [1, -3] * len(calls))

    def test_behind_judge_and_refused_reads(self):
        before = judge(SMALL) + read(SMALL[:-1]) + read([]) + read([0] * 4097) + judge([1])
        for call in self.CALLS:
            self.assertEqual(split(answers(before + call))[-1], [-3], call)

    def test_until_a_read_and_from_then_on(self):
        given = answers([USES, 9] + judge(SMALL) + [USES, 9] + read(SMALL) + [USES, 9])
        self.assertEqual(given, [1, -3, 1, 0, 1, -3, 1, 0, 3, 2, 8, 13])


class WhatIsHeld(unittest.TestCase):
    QUESTIONS = [[HEAD], [COUNT, 1], [FACE, 0], [TAG, 9], [TEXT, 1], [NUMBER, 29], [PAIR, 7], [PAIR, 3], [MEMBER, 1, 0],
                 [MEMBER, 2, 1], [ATTR, 1, 0, 0], [ATTR, 2, 0, 0], [ATTR, 3, 5, 0], [ATTR, 4, 1, 0], [CODE_OF, 0],
                 find(2, "run", "()V"), find(2, "g", "(J)V"), [SLOTS, 0], [USES, 6], [USES, 1], [TOLD, 2], [TOLD, 7]]

    def test_stays_behind_what_is_refused(self):
        questions = sum(self.QUESTIONS, [])
        for content in contents():
            before = split(answers(read(content) + questions))[1:]
            for other in contents():
                for between in (judge(other), judge(other[:-1]), read(other[:-1]), read(other + [0])):
                    self.assertEqual(split(answers(read(content) + between + questions))[2:], before)
            for between in (read([]), read([0] * 4097), judge([0] * 4097)) + REFUSED:
                given = split(answers(read(content) + between + questions))
                self.assertIn(given[1][0], (-2, -1, 1), between)
                self.assertEqual(given[2:], before, between)

    def test_what_is_told_changes_nothing(self):
        for content in contents():
            alone = [split(answers(read(content) + call))[1] for call in self.QUESTIONS]
            for questions in (self.QUESTIONS, self.QUESTIONS[::-1]):
                given = split(answers(read(content) + sum(questions, [])))[1:]
                self.assertEqual(given, alone if questions is self.QUESTIONS else alone[::-1])

    def test_a_second_read_takes_its_place(self):
        questions = sum(self.QUESTIONS[:18], [])
        for first in contents():
            for second in contents():
                given = answers(read(first) + questions + read(second) + questions)
                self.assertEqual(given, answers(read(first) + questions) + answers(read(second) + questions))

    def test_a_read_of_the_same_file_again(self):
        given = split(answers(read(SMALL) + [USES, 9] + read(SMALL) + [USES, 9]))
        self.assertEqual(given, [[0], [2, 8, 13], [0], [2, 8, 13]])


def mixed_list(seed):
    """A list of 40 calls at most and its answers as the model tells them; each seed leads to another one."""
    files = contents()
    calls, expected = [], []
    held = None
    for step in range(1, 41):
        seed = (seed * 1103515245 + 12345) % 2147483648
        choice = seed // 65536
        content = files[choice // 16 % 4]
        change = (read, judge)[choice // 64 % 2]
        if choice % 16 < 3 and len(calls) + len(content) < 29000:
            if choice % 16 == 0:
                call, answer = change(content + [0]), [17, len(content)]
            else:
                call, answer = change(content), [0]
                held = Model(content) if change is read else held
        else:
            some = POOL_OF_CALLS[choice % len(POOL_OF_CALLS)]
            call, answer = some, [-3] if held is None else held.answer(some[0], *parts_of(some))
        calls.extend(call)
        expected.append(answer)
    return calls, expected


POOL_OF_CALLS = [call for content in contents() for call in every_call(content)[::3]]


class AnyOrder(unittest.TestCase):
    def test_lists_of_forty_calls(self):
        for seed in range(300):
            calls, expected = mixed_list(seed)
            self.assertLessEqual(len(calls), 30000)
            self.assertEqual(len(expected), 40)
            given = split(answers(calls))
            for k in range(40):
                self.assertEqual(given[k], expected[k], (seed, k))
            self.assertEqual(len(given), 40)

    def test_the_longest_list(self):
        m = Maker()
        m.attributes = [m.attribute("X", [])]
        m.attributes = [m.attribute("X", [0] * (4096 - len(m.build().content)))]
        content = m.build().content
        rest = 30000 - 7 * 4098 - 31 * 2 - 5
        calls = read(content) * 7 + [USES, 1] * 31 + find(1, [7] * rest, [])
        calls.append(HEAD)
        self.assertEqual(len(calls), 30000)
        expected = [1, 0] * 7 + [2, 1, m.this] * 31 + [1, -1, 7, 0, 0, 52, 0x21, m.this, m.parent, m.numbers]
        self.assertEqual(answers(calls), expected)
        self.assertEqual(len(split(answers(calls))), 40)


class Guarded(list):
    """A list that can be read and not changed."""

    def refuse(self, *parts):
        raise AssertionError("what is handed in is changed")

    append = extend = insert = pop = remove = reverse = sort = clear = refuse
    __setitem__ = __delitem__ = __iadd__ = __imul__ = refuse


class TheList(unittest.TestCase):
    CALLS = read(SMALL) + judge(SMALL[:-1]) + sum(WhatIsHeld.QUESTIONS, []) + find(1, "BIG", "J")

    def test_is_as_it_was(self):
        calls = list(self.CALLS)
        answers(calls)
        self.assertEqual(calls, self.CALLS)

    def test_is_not_changed_for_a_while_either(self):
        self.assertEqual(answers(Guarded(self.CALLS)), answers(self.CALLS))
        for call in REFUSED:
            self.assertEqual(answers(Guarded(read(SMALL) + call)), [1, 0, 1, -1])

    def test_what_is_given_back_is_a_list_of_its_own(self):
        first = answers(self.CALLS)
        copy = list(first)
        first.clear()
        self.assertEqual(answers(self.CALLS), copy)

    def test_a_second_time_starts_anew(self):
        for call in REFUSED + tuple(WhatIsHeld.QUESTIONS):
            answers(self.CALLS)
            self.assertEqual(answers(call), [1, -3])
        self.assertEqual(answers(self.CALLS), answers(self.CALLS))

    def test_whole_numbers_alone(self):
        for content in contents():
            given = answers(read(content) + sum(WhatIsHeld.QUESTIONS, []))
            self.assertEqual({value.__class__ for value in given}, {int})
            self.assertEqual(given.__class__, list)


if __name__ == "__main__":
    unittest.main()
