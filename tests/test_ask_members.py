"""The calls member, attr, code, find and slots, which ask about fields, methods and attributes."""

import unittest

from asking import ATTR, CODE_OF, MEMBER, MOST, SLOTS, asked, asked_all, find
from maker import CODE, Maker, full_maker
from small import SMALL

OTHER_WHATS = (0, 3, 4, 5, 255, 256, 257, 258, 65535, 65537, 65538, MOST - 1, MOST)


def with_slots(sort):
    m = Maker()
    m.method(0x400, "f", sort)
    return m.build().content


class Member(unittest.TestCase):
    def test_every_field_and_method(self):
        m = full_maker()
        content = m.build().content
        for what, members in ((1, m.fields), (2, m.methods)):
            given = asked(content, *[[MEMBER, what, k] for k in range(len(members))])
            self.assertEqual(given, [[0, flags, name, sort, len(inner)] for flags, name, sort, inner in members])

    def test_behind_the_last_one(self):
        m = full_maker()
        for what, size in ((1, len(m.fields)), (2, len(m.methods))):
            calls = [[MEMBER, what, k] for k in (size - 1, size, size + 1, 65535, 65536, MOST)]
            self.assertEqual([len(answer) for answer in asked(m.build().content, *calls)], [5, 1, 1, 1, 1, 1])
            self.assertEqual(asked(m.build().content, *calls[1:]), [[-1]] * 5)

    def test_none(self):
        self.assertEqual(asked(Maker().build().content, [MEMBER, 1, 0], [MEMBER, 2, 0]), [[-1], [-1]])

    def test_fields_alone_and_methods_alone(self):
        m = Maker()
        m.field(0xFFA8, "x", "I")
        self.assertEqual(asked(m.build().content, [MEMBER, 1, 0], [MEMBER, 2, 0]), [
            [0, 0xFFA8, m.text("x"), m.text("I"), 0], [-1],
        ])
        m = Maker()
        m.method(0xF4C0, "x", "()V")
        self.assertEqual(asked(m.build().content, [MEMBER, 1, 0], [MEMBER, 2, 0]), [
            [-1], [0, 0xF4C0, m.text("x"), m.text("()V"), 0],
        ])

    def test_other_whats(self):
        content = full_maker().build().content
        for k in (0, 1, 3):
            calls = [[MEMBER, what, k] for what in OTHER_WHATS]
            self.assertEqual(asked(content, *calls), [[-1]] * len(calls))

    def test_of_a_compiled_file(self):
        calls = [[MEMBER, 1, 0], [MEMBER, 1, 1], [MEMBER, 2, 0], [MEMBER, 2, 1], [MEMBER, 2, 2]]
        self.assertEqual(asked(SMALL, *calls), [
            [0, 0x18, 26, 27, 1], [0, 0x18, 31, 32, 1], [0, 1, 5, 6, 1], [0, 1, 36, 6, 1], [0, 0x1002, 38, 15, 1],
        ])


class Attr(unittest.TestCase):
    def expects(self, piece, attributes, call, *name):
        """Every attribute that the maker put there, and none behind them."""
        expected = []
        for j, (number, row, size) in enumerate(attributes):
            inner = row if isinstance(row, (list, tuple)) else row.content
            expected.append([0, number, piece.places[name + ("attribute", j, "bytes")], len(inner)])
        calls = [call + [j] for j in range(len(attributes))]
        self.assertEqual(asked(piece.content, *calls), expected)
        behind = [call + [j] for j in (len(attributes), len(attributes) + 1, 65535, 65536, MOST)]
        self.assertEqual(asked(piece.content, *behind), [[-1]] * 5)

    def test_fields_and_methods(self):
        m = full_maker()
        piece = m.build()
        for what, word, members in ((1, "field", m.fields), (2, "method", m.methods)):
            for k, member in enumerate(members):
                self.expects(piece, member[3], [ATTR, what, k], word, k)

    def test_the_file_whatever_k(self):
        m = full_maker()
        self.assertEqual(len(m.attributes), 3)
        for k in (0, 1, 3, 9, 10, 65535, MOST):
            self.expects(m.build(), m.attributes, [ATTR, 3, k], "file")

    def test_a_file_without_members(self):
        m = Maker()
        m.attributes = [m.attribute("X", [1, 2, 3]), m.attribute("Y")]
        for k in (0, 1, MOST):
            self.expects(m.build(), m.attributes, [ATTR, 3, k], "file")
        self.assertEqual(asked(m.build().content, *[[ATTR, what, 0, 0] for what in (1, 2, 4)]), [[-1]] * 3)

    def test_a_file_without_attributes(self):
        m = Maker()
        m.field(0, "x", "I", m.attribute("X"))
        m.method(0, "f", "()V", m.code(attributes=[m.attribute("X")]))
        for k in (0, 1, MOST):
            self.assertEqual(asked(m.build().content, [ATTR, 3, k, 0], [ATTR, 3, k, MOST]), [[-1], [-1]])

    def test_a_methods_code(self):
        m = Maker()
        inner = [m.attribute("X", [1, 2, 3]), m.attribute("Code"), m.attribute("X", [9] * 300)]
        handlers = [(0, 1, 0, 0)] * 3
        m.method(1, "f", "()V", m.code())
        code = m.code(row=[0] * 5, handlers=handlers, attributes=inner)
        m.method(1, "g", "()V", m.attribute("X", [4]), code, m.attribute("Y"))
        m.method(0x100, "h", "()V", m.attribute("X", [4]))
        m.method(0x400, "i", "()V", m.attribute("Y", [4]))
        piece = m.build()
        self.expects(piece, [], [ATTR, 4, 0], *CODE)
        self.expects(piece, inner, [ATTR, 4, 1], "method", 1, "attribute", 1, "bytes")
        for k in (2, 3, 4, 5, 65536, 65537, MOST):
            self.assertEqual(asked(piece.content, [ATTR, 4, k, 0], [ATTR, 4, k, 1], [ATTR, 4, k, MOST]), [[-1]] * 3)

    def test_no_member(self):
        m = full_maker()
        for what, size in ((1, len(m.fields)), (2, len(m.methods)), (4, len(m.methods))):
            calls = [[ATTR, what, k, j] for k in (size, size + 1, 65535, 65536, MOST) for j in (0, MOST)]
            self.assertEqual(asked(m.build().content, *calls), [[-1]] * 10)

    def test_other_whats(self):
        content = full_maker().build().content
        calls = [[ATTR, what, k, 0] for what in (0, 5, 6, 255, 257, 259, 65537, 65539, MOST) for k in (0, 1)]
        self.assertEqual(asked(content, *calls), [[-1]] * len(calls))

    def test_an_empty_one_at_the_files_end(self):
        m = Maker()
        m.attributes = [m.attribute("X")]
        content = m.build().content
        self.assertEqual(asked(content, [ATTR, 3, 0, 0]), [[0, m.text("X"), len(content), 0]])

    def test_of_a_compiled_file(self):
        value, code, table, file = asked(SMALL, [ATTR, 1, 1, 0], [ATTR, 2, 1, 0], [ATTR, 4, 1, 0], [ATTR, 3, 7, 1])
        self.assertEqual([value[1], value[3]], [28, 2])
        self.assertEqual(SMALL[value[2]:value[2] + 2], [0, 33])
        self.assertEqual([code[1], code[3]], [35, 69])
        self.assertEqual(SMALL[code[2] - 4:code[2] + 8], [0, 0, 0, 69, 0, 1, 0, 3, 0, 0, 0, 24])
        self.assertEqual([table[1], table[3], table[2] + table[3]], [37, 19, code[2] + code[3]])
        self.assertEqual([file[1], file[3], file[2] + file[3]], [51, 10, len(SMALL)])
        self.assertEqual(asked(SMALL, [ATTR, 4, 0, 0], [ATTR, 4, 1, 1], [ATTR, 4, 3, 0]), [[-1]] * 3)


class CodeOf(unittest.TestCase):
    def test_with_code_and_without(self):
        m = Maker()
        m.method(1, "f", "()V", m.code(stack=65535, variables=0, row=[7]))
        m.method(0x400, "g", "()V", m.attribute("X"))
        m.method(0x100, "h", "()V")
        code = m.code(stack=256, variables=65534, row=[1] * 300, handlers=[(0, 1, 0, 0)], attributes=[m.attribute("X")])
        m.method(1, "i", "()V", m.attribute("X", [1]), code)
        piece = m.build()
        first = piece.places[CODE + ("code",)]
        last = piece.places["method", 3, "attribute", 1, "bytes", "code"]
        self.assertEqual(asked(piece.content, *[[CODE_OF, k] for k in (0, 1, 2, 3, 4, 65535, 65536, MOST)]), [
            [0, 65535, 0, first, 1], [-1], [-1], [0, 256, 65534, last, 300], [-1], [-1], [-1], [-1],
        ])
        self.assertEqual(piece.content[first], 7)
        self.assertEqual(piece.content[last:last + 300], [1] * 300)

    def test_no_methods(self):
        m = Maker()
        m.field(0, "x", "I", m.attribute("Code", [0] * 20))
        m.attributes = [m.attribute("Code", [0] * 20)]
        self.assertEqual(asked(m.build().content, [CODE_OF, 0], [CODE_OF, 1]), [[-1], [-1]])

    def test_of_a_compiled_file(self):
        for k, expected, row in ((0, [1, 1, 5], [0x2A, 0xB7, 0, 1, 0xB1]), (2, [1, 1, 2], [0x2A, 0xB0])):
            answer = asked(SMALL, [CODE_OF, k])[0]
            self.assertEqual([answer[0], answer[1], answer[2], answer[4]], [0] + expected)
            self.assertEqual(SMALL[answer[3]:answer[3] + answer[4]], row)
        self.assertEqual(asked(SMALL, [CODE_OF, 3]), [[-1]])


class Find(unittest.TestCase):
    def setUp(self):
        m = Maker()
        for name, sort in (("x", "I"), ("x", "J"), ("y", "I"), ("xI", "J"), ("I", "I")):
            m.field(0, name, sort)
        for name, sort in (("x", "()V"), ("<init>", "()V"), ("x", "(I)V"), ("X", "()V"), ("y", "()I")):
            m.method(0x400, name, sort)
        self.content = m.build().content

    def test_each(self):
        calls = [find(1, *pair) for pair in (("x", "I"), ("x", "J"), ("y", "I"), ("xI", "J"), ("I", "I"))]
        self.assertEqual(asked(self.content, *calls), [[0], [1], [2], [3], [4]])
        calls = [find(2, *pair) for pair in (("x", "()V"), ("<init>", "()V"), ("x", "(I)V"), ("X", "()V"), ("y", "()I"))]
        self.assertEqual(asked(self.content, *calls), [[0], [1], [2], [3], [4]])

    def test_name_and_type_are_told_apart(self):
        for name, sort in (("xI", "I"), ("I", "x"), ("x", "xI"), ("xI", ""), ("", "xI"), ("x", "II"), ("xJ", "I")):
            self.assertEqual(asked(self.content, find(1, name, sort)), [[-1]])

    def test_a_field_is_no_method(self):
        self.assertEqual(asked(self.content, find(1, "x", "()V"), find(2, "x", "I"), find(2, "y", "I")), [[-1]] * 3)

    def test_byte_by_byte(self):
        m = Maker()
        m.field(0, m.raw_text([0xC3, 0xA9]), "I")
        m.field(0, m.raw_text([0xC0, 0x80]), "I")
        m.field(0, "\u0130", "LX;")
        content = m.build().content
        self.assertEqual(asked(content, find(1, [0xC3, 0xA9], "I"), find(1, [0xC0, 0x80], "I")), [[0], [1]])
        for name in ([0xE9], [0], [0x65, 0xCC, 0x81], [0xC3], [0xC3, 0xA9, 0], [0xC3, 0xA8]):
            self.assertEqual(asked(content, find(1, name, "I")), [[-1]])
        self.assertEqual(asked(content, find(1, "\u0130", "LX;"), find(1, "\u0130", "Lx;")), [[2], [-1]])

    def test_under_other_numbers(self):
        m = Maker()
        m.raw_text("x")
        m.raw_text("I")
        m.field(0, m.raw_text("x"), m.raw_text("I"))
        self.assertEqual(asked(m.build().content, find(1, "x", "I")), [[0]])

    def test_rows_that_are_no_name_and_no_type(self):
        rows = ([], [0], [255], [0] * 6000, [255] * 6000, list(b"a.b;["), list(b"I" * 4097), [0xC0])
        for row in rows:
            for what in (1, 2):
                calls = [find(what, row, row), find(what, "x", row), find(what, row, "I"), find(what, row, "()V")]
                if len(row) > 3000:
                    calls = calls[:1]
                self.assertEqual(asked(self.content, *calls), [[-1]] * len(calls))

    def test_a_beginning_or_a_longer_row(self):
        m = Maker()
        m.method(0x400, "run", "(I)V")
        for name, sort in (("ru", "(I)V"), ("runs", "(I)V"), ("un", "(I)V"), ("run", "(I)"), ("run", "(I)VV"), ("Run", "(I)V")):
            self.assertEqual(asked(m.build().content, find(2, name, sort)), [[-1]])

    def test_other_whats(self):
        calls = [find(what, *pair) for what in OTHER_WHATS for pair in (("x", "I"), ("x", "()V"))]
        self.assertEqual(asked(self.content, *calls), [[-1]] * len(calls))

    def test_none(self):
        self.assertEqual(asked(Maker().build().content, find(1, "x", "I"), find(2, "x", "()V")), [[-1], [-1]])

    def test_what_stands_behind_it_is_taken_as_the_next_call(self):
        given = asked(self.content, find(1, [], []), [SLOTS, 2], find(2, "x", "(I)V"), [SLOTS, 0], find(2, "", "()V"))
        self.assertEqual(given, [[-1], [1], [2], [0], [-1]])

    def test_of_a_compiled_file(self):
        calls = [find(1, "BIG", "J"), find(1, "WORD", "Ljava/lang/String;"), find(2, "<init>", "()V"),
                 find(2, "run", "()V"), find(2, "lambda$run$0", "()Ljava/lang/Object;"), find(2, "BIG", "J")]
        self.assertEqual(asked(SMALL, *calls), [[0], [1], [0], [1], [2], [-1]])


class Slots(unittest.TestCase):
    SORTS = {
        "()V": 0, "()J": 0, "()[D": 0, "()LJ;": 0, "(I)V": 1, "(J)V": 2, "(D)V": 2, "(BCDFIJSZ)V": 10, "(IJ)D": 3,
        "(JI)D": 3, "(JJ)J": 4, "(DJD)V": 6, "([J)V": 1, "([D)V": 1, "([[J[[[D)J": 2, "([JJ)V": 3, "(J[J)V": 3,
        "([JD[D)V": 4, "(LJ;)V": 1, "(LD;J)V": 3, "(LJ/D;LDJ;)V": 2, "([LJ;)V": 1, "(LJJ/DD;[[LD;DI)V": 5,
        "(LV;)V": 1, "(L(;)V": 1, "(L);J)V": 3, "(L)J;)V": 1, "(LJ)J;J)J": 3,
        "(" + "[" * 255 + "J)V": 1, "(" + "[" * 255 + "J" + "[" * 255 + "D)V": 2,
        "(" + "I" * 255 + ")V": 255, "(" + "I" * 254 + ")V": 254, "(" + "J" * 127 + ")V": 254,
        "(" + "J" * 127 + "I)V": 255, "(Z" + "D" * 127 + ")J": 255, "(" + "[J" * 255 + ")V": 255,
        "(" + "LJ;" * 255 + ")D": 255, "(" + "I" * 253 + "D)V": 255,
    }

    def test_each(self):
        for sort, slots in self.SORTS.items():
            with self.subTest(sort=sort):
                self.assertEqual(asked(with_slots(sort), [SLOTS, 0]), [[slots]])

    def test_which_method(self):
        m = Maker()
        for k, sort in enumerate(("(I)V", "()V", "(JJ)V", "(D)V")):
            m.method(0x400, f"f{k}", sort)
        m.field(0, "x", "J")
        calls = [[SLOTS, k] for k in (0, 1, 2, 3, 4, 5, 65535, 65536, MOST)]
        self.assertEqual(asked(m.build().content, *calls), [[1], [0], [4], [2], [-1], [-1], [-1], [-1], [-1]])

    def test_an_object_of_its_own_takes_none(self):
        m = Maker()
        m.method(0, "f", "(I)V", m.code())
        m.method(8, "g", "(I)V", m.code())
        self.assertEqual(asked(m.build().content, [SLOTS, 0], [SLOTS, 1]), [[1], [1]])

    def test_no_methods(self):
        m = Maker()
        m.field(0, "x", "I")
        self.assertEqual(asked(m.build().content, [SLOTS, 0], [SLOTS, 1]), [[-1], [-1]])

    def test_of_a_compiled_file(self):
        self.assertEqual(asked_all(SMALL, [[SLOTS, k] for k in range(4)]), [[0], [0], [0], [-1]])


if __name__ == "__main__":
    unittest.main()
