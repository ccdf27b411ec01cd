"""Rules 8, 9, 12 and 13 at the flags, this, super and the interfaces; rule 17 at the end."""

import unittest

from maker import FileCase, Maker


class Flags(FileCase):
    def test_kept(self):
        for flags in (0, 0x10, 0x400, 0x600, 0x601, 0x21, 0x30, 0x1000, 0xF000, 0xFFFF & ~0x210, 0xFFFF & ~0x10):
            m = Maker()
            m.flags = flags
            with self.subTest(flags=flags):
                self.keeps(m)

    def test_broken(self):
        for flags in (0x410, 0x610, 0x200, 0x210, 0x201, 0xFFFF, 0xFFFF & ~0x400):
            m = Maker()
            m.flags = flags
            with self.subTest(flags=flags):
                self.breaks(m, 12, "flags")
                self.breaks_cut(m, ("this",), 12, "flags")

    def test_all_of_the_two_rules_bits(self):
        for bits in range(8):
            m = Maker()
            m.flags = (0x10 if bits & 1 else 0) | (0x200 if bits & 2 else 0) | (0x400 if bits & 4 else 0)
            if bits & 4 and bits & 1 or bits & 2 and not bits & 4:
                self.breaks(m, 12, "flags")
            else:
                self.keeps(m)

    def test_before_this(self):
        m = Maker()
        m.flags = 0x200
        m.this = 0
        self.breaks(m, 12, "flags")


class ThisAndSuper(FileCase):
    def test_this_is_no_class(self):
        for k in range(5):
            m = Maker()
            wide = m.long()
            m.this = (0, m.text("A"), wide + 1, m.numbers, 65535)[k]
            self.breaks(m, 8, "this")
            self.breaks_cut(m, ("super",), 8, "this")

    def test_this_is_an_array(self):
        for name in ("[I", "[LA;", "[[J"):
            m = Maker()
            m.this = m.named_class(name)
            self.breaks(m, 9, "this")
            self.breaks_cut(m, ("super",), 9, "this")

    def test_super_may_be_none(self):
        m = Maker()
        m.parent = 0
        self.keeps(m)

    def test_super_is_no_class(self):
        for k in range(4):
            m = Maker()
            wide = m.long()
            m.parent = (m.text("A"), wide + 1, m.numbers, 65535)[k]
            self.breaks(m, 8, "super")
            self.breaks_cut(m, ("interfaces",), 8, "super")

    def test_super_is_an_array(self):
        m = Maker()
        m.parent = m.named_class("[I")
        self.breaks(m, 9, "super")
        self.breaks_cut(m, ("interfaces",), 9, "super")

    def test_this_before_super(self):
        m = Maker()
        m.this = m.named_class("[I")
        m.parent = 65535
        self.breaks(m, 9, "this")

    def test_super_may_be_this(self):
        m = Maker()
        m.parent = m.this
        self.keeps(m)


class Interfaces(FileCase):
    def test_kept(self):
        m = Maker()
        m.interfaces = [m.named_class("I"), m.named_class("i"), m.this, m.parent]
        self.keeps(m)

    def test_no_class(self):
        for k in range(5):
            m = Maker()
            wide = m.long()
            m.interfaces = [m.named_class("I"), (0, m.text("A"), wide + 1, m.numbers, 65535)[k], 0]
            self.breaks(m, 8, "interface", 1)
            self.breaks_cut(m, ("interface", 2), 8, "interface", 1)

    def test_an_array(self):
        m = Maker()
        m.interfaces = [m.named_class("[I"), 0]
        self.breaks(m, 9, "interface", 0)
        self.breaks_cut(m, ("interface", 1), 9, "interface", 0)

    def test_the_same_array_twice(self):
        m = Maker()
        m.interfaces = [m.named_class("I"), m.named_class("[I")] * 2
        self.breaks(m, 9, "interface", 1)

    def test_the_same_number_again(self):
        m = Maker()
        m.interfaces = [m.named_class("I"), m.named_class("J"), 0]
        m.interfaces[2] = m.interfaces[0]
        self.breaks(m, 13, "interface", 2)
        self.breaks_cut(m, ("fields",), 13, "interface", 2)

    def test_the_same_name_under_another_number(self):
        m = Maker()
        m.interfaces = [m.named_class("I"), m.one(7, m.text("I")), 0]
        self.breaks(m, 13, "interface", 1)
        m = Maker()
        m.interfaces = [m.named_class("p/I"), m.one(7, m.raw_text("p/I"))]
        self.breaks(m, 13, "interface", 1)

    def test_more_than_there_are(self):
        m = Maker()
        m.interfaces = [m.named_class("I")]
        piece = m.build()
        content = list(piece.content)
        content[piece.places["interfaces",]] = 255
        self.assertEqual(self.told(content), [2, 8, piece.places["fields",]])


class TheEnd(FileCase):
    def test_bytes_behind_the_last_attribute(self):
        for tail in ([0], [0xCA, 0xFE], [1] * 100):
            m = Maker()
            m.tail = tail
            self.breaks(m, 17, "tail")
            m.attributes = [m.attribute("X", [1, 2])]
            self.breaks(m, 17, "tail")

    def test_attribute_heads(self):
        for k in range(5):
            m = Maker()
            wide = m.long()
            wrong = (0, m.this, wide + 1, m.numbers + 1, 65535)[k]
            m.attributes = [m.attribute("X", [1]), m.attribute(wrong, [], 0xFFFFFFFF)]
            self.breaks(m, 8, "file", "attribute", 1)
            self.breaks_cut(m, ("file", "attribute", 1, "length"), 8, "file", "attribute", 1)

    def test_the_files_attributes_are_heads_alone(self):
        m = Maker()
        m.attributes = [m.attribute("Code"), m.attribute("Code"), m.attribute("ConstantValue", [0]), m.attribute("")]
        m.attributes.append(m.attribute("ConstantValue", [0, 0, 0]))
        self.keeps(m)


if __name__ == "__main__":
    unittest.main()
