"""Rule 12 at the fields; rules 8, 13 and 14 at ConstantValue."""

import unittest

from maker import FileCase, Maker


class Flags(FileCase):
    def test_access(self):
        for bits in range(8):
            m = Maker()
            m.field(bits, "x", "I")
            if bits in (0, 1, 2, 4):
                self.keeps(m)
            else:
                self.breaks(m, 12, "field", 0)

    def test_final_and_volatile(self):
        for flags in (0x10, 0x40, 0xFFA8, 0xFFF8 & ~0x10, 0xFFF8 & ~0x40):
            m = Maker()
            m.field(flags, "x", "I")
            self.keeps(m)
        for flags in (0x50, 0x51, 0xFFF8, 0xFFFF):
            m = Maker()
            m.field(flags, "x", "I")
            self.breaks(m, 12, "field", 0)

    def test_before_the_name(self):
        m = Maker()
        m.field(0x50, 0, 0)
        self.breaks(m, 12, "field", 0)
        self.breaks_cut(m, ("field", 0, "name"), 12, "field", 0)

    def test_of_a_later_field(self):
        m = Maker()
        m.field(0, "x", "I")
        m.field(3, "y", "I")
        self.breaks(m, 12, "field", 1)


class Attributes(FileCase):
    def test_a_code_is_not_looked_into(self):
        m = Maker()
        m.field(0, "x", "I", m.attribute("Code", [5]), m.attribute("Code"), m.attribute("constantValue", [0, 0]))
        self.keeps(m)


def constants_of(m):
    return {
        3: m.integer(), 4: m.constant(4, (0, 4)), 5: m.long(), 6: m.constant(6, (0, 8)), 8: m.one(8, m.text("s")),
        1: m.text("s"), 7: m.this, 9: m.member_constant(9, "x", "I"),
    }


class Values(FileCase):
    FITS = {"J": 5, "F": 4, "D": 6, "Ljava/lang/String;": 8, "B": 3, "C": 3, "I": 3, "S": 3, "Z": 3}
    OTHERS = ("Ljava/lang/Object;", "Ljava/lang/string;", "Lx;", "[I", "[J", "[Ljava/lang/String;", "LI;")

    def test_every_tag_for_every_sort(self):
        for sort in list(self.FITS) + list(self.OTHERS):
            for tag in constants_of(Maker()):
                m = Maker()
                m.field(0, "x", sort, m.attribute("X", [1, 2, 3]), m.value(constants_of(m)[tag]))
                with self.subTest(sort=sort, tag=tag):
                    if tag == self.FITS.get(sort):
                        self.keeps(m)
                    else:
                        self.breaks(m, 8, "field", 0, "attribute", 1, "bytes")

    def test_no_constant(self):
        for sort in list(self.FITS) + list(self.OTHERS):
            for k in range(4):
                m = Maker()
                wide = m.long()
                m.text(sort)
                m.text("x")
                m.text("ConstantValue")
                m.field(0, "x", sort, m.value((0, wide + 1, m.numbers, 65535)[k]))
                self.breaks(m, 8, "field", 0, "attribute", 0, "bytes")

    def test_length(self):
        for row in ([], [0], [0, 0, 0], [0, 1, 0, 0], [0] * 256, [0] * 258):
            m = Maker()
            m.field(0, "x", "I", m.attribute("ConstantValue", row))
            self.breaks(m, 14, "field", 0, "attribute", 0, "bytes")
            self.breaks_cut(m, ("methods",), 14, "field", 0, "attribute", 0, "bytes")

    def test_length_before_the_constant(self):
        m = Maker()
        m.field(0, "x", "[I", m.attribute("ConstantValue", [0, 0, 0]))
        self.breaks(m, 14, "field", 0, "attribute", 0, "bytes")

    def test_more_than_one(self):
        m = Maker()
        n = m.integer()
        m.field(0, "y", "I", m.value(n))
        m.field(0, "x", "I", m.value(n), m.attribute("X"), m.value(n))
        self.breaks(m, 13, "field", 1)
        self.breaks_cut(m, ("methods",), 13, "field", 1)

    def test_more_than_one_under_another_number(self):
        m = Maker()
        n = m.integer()
        m.field(0, "x", "I", m.value(n), m.attribute(m.raw_text("ConstantValue"), [0, n]))
        self.breaks(m, 13, "field", 0)

    def test_more_than_one_before_their_lengths(self):
        m = Maker()
        m.field(0, "x", "I", m.attribute("ConstantValue"), m.attribute("ConstantValue", [0] * 3))
        self.breaks(m, 13, "field", 0)

    def test_all_heads_come_before(self):
        m = Maker()
        m.field(0, "x", "I", m.attribute("ConstantValue"), m.attribute(0))
        self.breaks(m, 8, "field", 0, "attribute", 1)

    def test_before_the_next_field(self):
        m = Maker()
        m.field(0, "x", "I", m.attribute("ConstantValue"))
        m.field(0x50, "y", "I")
        self.breaks(m, 14, "field", 0, "attribute", 0, "bytes")


if __name__ == "__main__":
    unittest.main()
