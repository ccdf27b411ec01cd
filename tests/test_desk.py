"""The calls 1 to 8, on what is held and on nothing; what is refused changes nothing."""

import unittest

from asking import COUNT, FACE, HEAD, MOST, NUMBER, TAG, TEXT, asked, judge, read, split
from classfiles.desk import answers
from maker import Maker, full_maker
from small import SMALL

ASKS = ([HEAD], [COUNT, 0], [COUNT, 4], [FACE, 0], [TAG, 1], [TAG, 0], [TEXT, 1], [NUMBER, 1])


class NothingHeld(unittest.TestCase):
    def test_at_the_beginning(self):
        for call in ASKS:
            self.assertEqual(answers(call), [1, -3])

    def test_whatever_is_asked(self):
        for call in (COUNT, FACE, TAG, TEXT, NUMBER):
            for number in (0, 1, 3, 4, 65535, MOST):
                self.assertEqual(answers([call, number]), [1, -3])

    def test_behind_a_judge(self):
        self.assertEqual(answers(judge(SMALL) + [HEAD]), [1, 0, 1, -3])

    def test_behind_a_read_that_is_refused(self):
        self.assertEqual(answers(read([1, 2, 3, 4]) + [HEAD]), [2, 2, 0, 1, -3])
        self.assertEqual(answers(read(SMALL + [0]) + [HEAD]), [2, 17, len(SMALL), 1, -3])
        self.assertEqual(answers(read([0] * 4097) + [HEAD]), [1, -2, 1, -3])
        self.assertEqual(answers(read([]) + [HEAD]), [2, 1, 0, 1, -3])


class Head(unittest.TestCase):
    def test_of_a_compiled_file(self):
        self.assertEqual(asked(SMALL, [HEAD]), [[0, 0, 55, 0x21, 22, 2, 57]])

    def test_of_a_made_file(self):
        m = Maker()
        m.minor = 65535
        m.major = 45
        m.flags = 0xFFEF
        m.parent = 0
        self.assertEqual(asked(m.build().content, [HEAD]), [[0, 65535, 45, 0xFFEF, m.this, 0, m.numbers]])

    def test_count_with_a_constant_of_two_numbers_last(self):
        m = Maker()
        n = m.long()
        self.assertEqual(asked(m.build().content, [HEAD])[0][-1], n + 2)


class Count(unittest.TestCase):
    def test_each(self):
        calls = [[COUNT, what] for what in range(4)]
        self.assertEqual(asked(SMALL, *calls), [[1], [2], [3], [2]])
        self.assertEqual(asked(full_maker().build().content, *calls), [[2], [10], [4], [3]])
        self.assertEqual(asked(Maker().build().content, *calls), [[0], [0], [0], [0]])

    def test_others(self):
        for what in (4, 5, 65535, MOST):
            self.assertEqual(asked(SMALL, [COUNT, what]), [[-1]])


class Face(unittest.TestCase):
    def test_each(self):
        m = full_maker()
        calls = [[FACE, 0], [FACE, 1], [FACE, 2], [FACE, MOST]]
        self.assertEqual(asked(m.build().content, *calls), [[m.interfaces[0]], [m.interfaces[1]], [-1], [-1]])
        self.assertEqual(asked(SMALL, [FACE, 0], [FACE, 1]), [[24], [-1]])

    def test_none(self):
        self.assertEqual(asked(Maker().build().content, [FACE, 0]), [[-1]])


class Tag(unittest.TestCase):
    def test_each(self):
        m = full_maker()
        content = m.build().content
        for k in range(0, len(m.constants), 30):
            some = m.constants[k:k + 30]
            given = asked(content, *[[TAG, number] for number, tag, parts in some])
            self.assertEqual(given, [[tag] for number, tag, parts in some])

    def test_others(self):
        m = Maker()
        wide = m.long()
        double = m.constant(6, (0, 8))
        calls = [[TAG, i] for i in (wide, wide + 1, double, double + 1, 0, m.numbers, m.numbers + 1, 65535, 65536, MOST)]
        self.assertEqual(asked(m.build().content, *calls), [[5], [-1], [6]] + [[-1]] * 7)


class Text(unittest.TestCase):
    def test_each(self):
        m = full_maker()
        piece = m.build()
        texts = [(number, parts) for number, tag, parts in m.constants if tag == 1]
        for number, parts in texts:
            start = piece.places["constant", number, "bytes"]
            self.assertEqual(asked(piece.content, [TEXT, number]), [[0, start, len(parts[1])]])
            self.assertEqual(piece.content[start:start + len(parts[1])], parts[1])

    def test_an_empty_one(self):
        m = Maker()
        n = m.text("")
        piece = m.build()
        self.assertEqual(asked(piece.content, [TEXT, n]), [[0, piece.places["constant", n] + 3, 0]])

    def test_of_a_compiled_file(self):
        place = asked(SMALL, [TEXT, 34])[0][1]
        self.assertEqual(asked(SMALL, [TEXT, 34]), [[0, place, 5]])
        self.assertEqual(SMALL[place:place + 5], [0x61, 0xC0, 0x80, 0xC3, 0xA9])

    def test_others(self):
        m = full_maker()
        content = m.build().content
        for number, tag, parts in m.constants:
            if tag != 1:
                self.assertEqual(asked(content, [TEXT, number]), [[-1]])
        for number in (0, m.numbers, 65535, MOST):
            self.assertEqual(asked(content, [TEXT, number]), [[-1]])

    def test_the_second_number(self):
        m = Maker()
        n = m.long()
        self.assertEqual(asked(m.build().content, [TEXT, n + 1]), [[-1]])


class Number(unittest.TestCase):
    def test_bits(self):
        for tag, width in ((3, 4), (4, 4), (5, 8), (6, 8)):
            top = 1 << (8 * width)
            for value in (0, 1, 255, 256, top // 2 - 1, top // 2, top - 1, 0x12345678):
                m = Maker()
                n = m.constant(tag, (value, width))
                self.assertEqual(asked(m.build().content, [NUMBER, n]), [[0, value]])

    def test_of_a_compiled_file(self):
        self.assertEqual(asked(SMALL, [NUMBER, 29], [NUMBER, 30]), [[0, 1 << 40], [-1]])

    def test_others(self):
        m = full_maker()
        content = m.build().content
        for number, tag, parts in m.constants:
            if tag not in (3, 4, 5, 6):
                self.assertEqual(asked(content, [NUMBER, number]), [[-1]])
            elif tag in (5, 6):
                self.assertEqual(asked(content, [NUMBER, number + 1]), [[-1]])
        for number in (0, m.numbers, 65535, MOST):
            self.assertEqual(asked(content, [NUMBER, number]), [[-1]])


class WhatIsHeld(unittest.TestCase):
    def setUp(self):
        self.full = full_maker().build().content
        self.broken = self.full + [0]
        self.questions = [HEAD, COUNT, 0, COUNT, 1, FACE, 0, TAG, 3, TEXT, 3, NUMBER, 9]

    def test_stays_behind_what_is_refused(self):
        before = answers(read(SMALL) + self.questions)[2:]
        for between in (judge(self.full), judge(self.broken), read(self.broken), read([]), read([0] * 4097),
                        judge([0] * 4097), [COUNT, 4], [FACE, 9], [TAG, 0], [TEXT, 1], [NUMBER, 1], [HEAD]):
            given = split(answers(read(SMALL) + between + self.questions))
            self.assertEqual(given[2:], split(before))

    def test_a_second_read_takes_its_place(self):
        first = answers(read(SMALL) + self.questions)
        second = answers(read(self.full) + self.questions)
        self.assertNotEqual(first, second)
        self.assertEqual(answers(read(SMALL) + self.questions + read(self.full) + self.questions), first + second)
        self.assertEqual(answers(read(self.full) + self.questions + read(SMALL) + self.questions), second + first)

    def test_judge_answers_the_same_whatever_is_held(self):
        for content in (SMALL, self.full, self.broken, [], [0] * 4097):
            alone = answers(judge(content))
            self.assertEqual(answers(read(self.full) + judge(content)), [1, 0] + alone)
            self.assertEqual(answers(read(content)), alone)


class TheList(unittest.TestCase):
    def test_is_as_it_was(self):
        calls = read(SMALL) + judge(SMALL[:-1]) + [HEAD, COUNT, 0, FACE, 0, TAG, 1, TEXT, 4, NUMBER, 29]
        copy = list(calls)
        answers(calls)
        self.assertEqual(calls, copy)

    def test_nothing_is_kept(self):
        answers(read(SMALL))
        self.assertEqual(answers([HEAD]), [1, -3])
        self.assertEqual(answers(read(SMALL) + [HEAD]), answers(read(SMALL) + [HEAD]))

    def test_each_answer_is_a_new_list(self):
        first = answers(read(SMALL) + [HEAD])
        first.append(7)
        self.assertEqual(answers(read(SMALL) + [HEAD]), first[:-1])

    def test_forty_calls(self):
        calls = read(SMALL) + [TAG, 1, COUNT, 2, HEAD] * 13
        self.assertEqual(answers(calls), [1, 0] + [1, 10, 1, 3, 7, 0, 0, 55, 0x21, 22, 2, 57] * 13)

    def test_kinds(self):
        given = answers(read(SMALL) + [HEAD, NUMBER, 29, TEXT, 1, COUNT, 0])
        self.assertEqual({value.__class__ for value in given}, {int})
        self.assertEqual(given.__class__, list)


if __name__ == "__main__":
    unittest.main()
