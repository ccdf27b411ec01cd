"""Files that keep all rules, and what any bytes whatever are answered with."""

import unittest

from classfiles.desk import answers
from maker import FileCase, Maker, full_maker
from small import SMALL


class Kept(FileCase):
    def test_the_least_file(self):
        m = Maker()
        m.constants = []
        m.numbers = 1
        m.known = {}
        m.this = m.named_class("A")
        m.parent = 0
        self.assertEqual(len(m.build().content), 10 + 4 + 3 + 14)
        self.keeps(m)

    def test_everything(self):
        m = full_maker()
        self.assertEqual({tag for number, tag, parts in m.constants}, {1, 3, 4, 5, 6, 7, 8, 9, 10, 11, 12, 15, 16, 18})
        self.keeps(m)

    def test_as_a_compiler_makes_it(self):
        self.assertEqual(self.told(SMALL), [1, 0])

    def test_many_of_each(self):
        m = Maker()
        m.interfaces = [m.named_class(f"I{k}") for k in range(20)]
        for k in range(30):
            m.field(k % 2, f"f{k}", "I", *[m.attribute("X")] * (k % 3))
            m.method(k % 2, f"f{k}", "()V", m.code(row=[0] * (k + 1), handlers=[(k, k + 1, k, 0)] * (k % 3)))
        m.attributes = [m.attribute("X", [k]) for k in range(50)]
        self.keeps(m)
        counts = answers([1, len(m.build().content)] + m.build().content + [4, 0, 4, 1, 4, 2, 4, 3])
        self.assertEqual(counts, [1, 0, 1, 20, 1, 30, 1, 30, 1, 50])


class AnyBytes(FileCase):
    def has_form(self, content):
        answer = answers([2, len(content)] + content)
        if answer != [1, 0]:
            self.assertEqual([len(answer), answer[0]], [3, 2])
            self.assertTrue(1 <= answer[1] <= 17, answer)
            self.assertTrue(0 <= answer[2] <= len(content), answer)

    def test_each_byte_changed(self):
        for sample in (SMALL, full_maker().build().content):
            for k, byte in enumerate(sample):
                for other in (0, 255, byte ^ 1):
                    self.has_form(sample[:k] + [other] + sample[k + 1:])

    def test_each_byte_left_out_or_doubled(self):
        for sample in (SMALL, full_maker().build().content):
            for k in range(len(sample)):
                self.has_form(sample[:k] + sample[k + 1:])
                self.has_form(sample[:k] + sample[k:k + 1] + sample[k:])

    def test_one_byte_over_and_over(self):
        for byte in range(256):
            self.has_form([byte] * 4096)
            self.has_form(SMALL[:10] + [byte] * 4086)

    def test_long_ones_are_gone_through_by_loops(self):
        for word in ("[" * 3900 + "I", "a/" * 1950, "[" + "L" * 3900, "(" * 3900):
            m = Maker()
            n = m.one(7, m.text(word))
            if word[0] == "(":
                self.keeps(m)
            else:
                self.breaks(m, 9, "constant", n)
        for word in ("(" * 3900, "(" + "[" * 3900 + "I)V", "(" + "I" * 3900 + ")V", "()" + "[" * 3900 + "I"):
            m = Maker()
            n = m.one(16, m.text(word))
            self.breaks(m, 10, "constant", n)


if __name__ == "__main__":
    unittest.main()
