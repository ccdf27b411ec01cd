"""Rules 12 and 16 at the methods, and rule 10 at the result of <init>."""

import unittest

from maker import FileCase, Maker


class Flags(FileCase):
    def test_access(self):
        for bits in range(8):
            m = Maker()
            m.method(bits, "f", "()V", m.code())
            if bits in (0, 1, 2, 4):
                self.keeps(m)
            else:
                self.breaks(m, 12, "method", 0)

    def test_each_bit_beside_abstract(self):
        for k in range(16):
            bit = 1 << k
            m = Maker()
            m.method(0x400 | bit, "f", "()V")
            with self.subTest(bit=hex(bit)):
                if bit in (2, 8, 0x10, 0x20, 0x100, 0x800):
                    self.breaks(m, 12, "method", 0)
                else:
                    self.keeps(m)

    def test_each_bit_without_abstract(self):
        for bit in (8, 0x10, 0x20, 0x40, 0x80, 0x100, 0x200, 0x800, 0x1000, 0x2000, 0x4000, 0x8000):
            for access in (0, 1, 2, 4):
                m = Maker()
                m.method(bit | access, "f", "()V", *([] if bit == 0x100 else [m.code()]))
                self.keeps(m)

    def test_all_bits_beside_abstract(self):
        m = Maker()
        m.method(0xFFFF & ~0x93A & ~6, "f", "()V")
        self.keeps(m)
        m = Maker()
        m.method(0x500, "f", "()V")
        self.breaks(m, 12, "method", 0)

    def test_a_fields_rule_is_no_methods(self):
        m = Maker()
        m.method(0x50, "f", "()V", m.code())
        self.keeps(m)

    def test_before_the_name(self):
        m = Maker()
        m.method(3, 0, 0)
        self.breaks(m, 12, "method", 0)
        self.breaks_cut(m, ("method", 0, "name"), 12, "method", 0)


class Results(FileCase):
    def test_the_result_of_init(self):
        for sort in ("()I", "()LV;", "(J)[I", "(I)LA;", "V", "()VV"):
            m = Maker()
            m.method(0x400, "<init>", sort)
            self.breaks(m, 10, "method", 0, "sort")
        for sort in ("()V", "(I)V"):
            m = Maker()
            m.method(0x400, "<init>", sort)
            self.keeps(m)

    def test_the_result_of_others(self):
        for name in ("<clinit>", "init", "f"):
            m = Maker()
            m.method(0x400, name, "()I")
            self.keeps(m)


class Attributes(FileCase):
    def test_a_value_is_not_looked_into(self):
        m = Maker()
        m.method(0x400, "f", "()V", m.attribute("ConstantValue", [0]), m.attribute("ConstantValue"))
        self.keeps(m)


class OneCode(FileCase):
    def test_none_where_one_is_needed(self):
        for flags in (0, 1, 0xA, 0x820):
            m = Maker()
            m.method(flags, "f", "()V", m.attribute("code"), m.attribute("Code "))
            self.breaks(m, 16, "method", 0)
            self.breaks_cut(m, ("file", "attributes"), 16, "method", 0)

    def test_two(self):
        m = Maker()
        m.method(0, "f", "()V", m.code(), m.attribute("X"), m.code())
        self.breaks(m, 16, "method", 0)
        m = Maker()
        m.method(0, "f", "()V", m.code(), m.attribute(m.raw_text("Code")))
        self.breaks(m, 16, "method", 0)

    def test_one_where_none_may_be(self):
        for flags in (0x400, 0x401, 0x100, 0x13A):
            m = Maker()
            m.method(0x400, "g", "()V")
            m.method(flags, "f", "()V", m.code())
            self.breaks(m, 16, "method", 1)

    def test_none_where_none_may_be(self):
        for flags in (0x400, 0x100, 0x93A):
            m = Maker()
            m.method(flags, "f", "()V")
            self.keeps(m)

    def test_code_under_another_number(self):
        m = Maker()
        m.text("Code")
        code = m.code()
        m.method(0, "f", "()V", (m.raw_text("Code"), code[1], None))
        self.keeps(m)

    def test_all_heads_come_before(self):
        m = Maker()
        m.method(0, "f", "()V", m.attribute(0))
        self.breaks(m, 8, "method", 0, "attribute", 0)

    def test_before_the_inside(self):
        m = Maker()
        m.method(0, "f", "()V", m.code(length=0), m.code(length=0))
        self.breaks(m, 16, "method", 0)


if __name__ == "__main__":
    unittest.main()
