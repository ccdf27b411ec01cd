"""Rules 1, 8, 9, 10 and 13 as they hold for fields and for methods alike."""

import unittest

from maker import FileCase, Maker
from words import FIELD_SORTS, METHOD_SORTS, NO_FIELD_SORTS, NO_METHOD_SORTS

NO_NAMES = ("", ".", ";", "[", "/", "a.b", "a;", "a[", "[a", "a/b", "/a", "a/")


def no_texts(m):
    """Numbers that are no text's."""
    wide = m.long()
    return [0, m.this, wide, wide + 1, m.numbers + 4, 65535]


class MemberRules:
    """The tests; the two classes below say for which members."""

    def member(self, m, name, sort, *attributes):
        if self.word == "field":
            m.field(0, name, sort, *attributes)
        else:
            m.method(0x400, name, sort, *attributes)

    def test_name_is_no_text(self):
        for k in range(len(no_texts(Maker()))):
            m = Maker()
            self.member(m, no_texts(m)[k], 0)
            self.breaks(m, 8, self.word, 0, "name")
            self.breaks_cut(m, (self.word, 0, "sort"), 8, self.word, 0, "name")

    def test_names(self):
        for name in self.names:
            m = Maker()
            self.member(m, name, self.sorts[0])
            self.keeps(m)

    def test_other_names(self):
        for name in self.no_names:
            m = Maker()
            self.member(m, name, 0)
            with self.subTest(name=name):
                self.breaks(m, 9, self.word, 0, "name")
                self.breaks_cut(m, (self.word, 0, "sort"), 9, self.word, 0, "name")

    def test_sort_is_no_text(self):
        for k in range(len(no_texts(Maker()))):
            m = Maker()
            self.member(m, "x", no_texts(m)[k])
            self.breaks(m, 8, self.word, 0, "sort")
            self.breaks_cut(m, (self.word, 0, "attributes"), 8, self.word, 0, "sort")

    def test_sorts(self):
        for sort in self.sorts:
            m = Maker()
            self.member(m, "x", sort)
            self.keeps(m)

    def test_other_sorts(self):
        for sort in self.no_sorts:
            m = Maker()
            self.member(m, "x", sort)
            with self.subTest(sort=sort):
                self.breaks(m, 10, self.word, 0, "sort")
                self.breaks_cut(m, (self.word, 0, "attributes"), 10, self.word, 0, "sort")

    def test_same_name_and_same_sort(self):
        m = Maker()
        for name in ("x", "y", "x"):
            self.member(m, name, self.sorts[0])
        self.breaks(m, 13, self.word, 2)
        self.breaks_cut(m, (self.word, 2, "attributes"), 13, self.word, 2)

    def test_the_same_as_texts(self):
        m = Maker()
        self.member(m, "x", self.sorts[0])
        self.member(m, m.raw_text("x"), m.raw_text(self.sorts[0]))
        self.breaks(m, 13, self.word, 1)

    def test_one_of_both_is_not_the_same(self):
        m = Maker()
        for name in ("x", "y", "xI", "I"):
            for sort in self.sorts[:3]:
                self.member(m, name, sort)
        self.keeps(m)

    def test_the_same_before_its_attributes(self):
        m = Maker()
        self.member(m, "x", self.sorts[0])
        self.member(m, "x", self.sorts[0], m.attribute(0))
        self.breaks(m, 13, self.word, 1)

    def test_heads(self):
        for k in range(len(no_texts(Maker()))):
            m = Maker()
            wrong = no_texts(m)[k]
            self.member(m, "x", self.sorts[0], m.attribute("X", [5]), m.attribute(wrong, [], 0xFFFFFFFF))
            self.breaks(m, 8, self.word, 0, "attribute", 1)
            self.breaks_cut(m, (self.word, 0, "attribute", 1, "length"), 8, self.word, 0, "attribute", 1)

    def test_bytes_that_are_not_there(self):
        m = Maker()
        self.member(m, "x", self.sorts[0], m.attribute("X", [5], 4096))
        self.breaks(m, 1, self.word, 0, "attribute", 0, "bytes")


class Fields(MemberRules, FileCase):
    word = "field"
    names = ("x", "<init>", "<clinit>", "<", "<x>", "a b", "I", ":", "(")
    no_names = NO_NAMES
    sorts = FIELD_SORTS
    no_sorts = NO_FIELD_SORTS + METHOD_SORTS


class Methods(MemberRules, FileCase):
    word = "method"
    names = ("x", "<init>", "<clinit>", "a b", "I", ":", "(", "-")
    no_names = NO_NAMES + ("<", ">", "<x>", "a<", "<init", "<init>>", "<CLINIT>")
    sorts = METHOD_SORTS
    no_sorts = NO_METHOD_SORTS + FIELD_SORTS


class Both(FileCase):
    def test_a_method_is_no_field(self):
        m = Maker()
        m.field(0, "x", "I")
        m.method(0x400, "x", "()V")
        m.field(0, "y", "I")
        m.method(0x400, "y", "()I")
        self.keeps(m)


if __name__ == "__main__":
    unittest.main()
