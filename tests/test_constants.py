"""Rules 8 to 11: what constants name, looked at by number when all are read."""

import unittest

from maker import FileCase, Maker
from words import FIELD_SORTS, METHOD_SORTS, NO_FIELD_SORTS, NO_METHOD_SORTS

CLASS_NAMES = (
    "A", "a/b", "a/b/c", "<x>", "<init>", "a b", "()", "I", "V", ":", "-", "L", "[I", "[[I", "[La;", "[[La/b;",
    "[" * 255 + "I", "[" * 255 + "La;",
)

NO_CLASS_NAMES = (
    "", "/", "/a", "a/", "a//b", "//", "a.b", ".", "a;", ";", "La;", "a[b", "a[", "a/[I", "[", "[V", "[La", "[L;",
    "[Ia", "[I;", "[La.b;", "[La//b;", "[(I)V", "[" * 256 + "I", "[" * 256,
)

NO_SIMPLE_NAMES = ("", ".", ";", "[", "/", "a.b", "a;", "[a", "a/b", "/a", "a/", "a[")


def wrong_numbers(m, *right):
    """Numbers that name nothing, or a constant of none of the right tags."""
    wide = m.long()
    there = {
        1: m.text("t"), 3: m.integer(), 4: m.constant(4, (0, 4)), 5: wide, 6: m.constant(6, (0, 8)), 7: m.this,
        8: m.one(8, m.text("t")), 9: m.member_constant(9, "f", "I"), 10: m.member_constant(10, "f", "()V"),
        11: m.member_constant(11, "f", "()V"), 12: m.named("f", "()V"), 16: m.one(16, m.text("()V")),
        18: m.two(18, 0, m.named("f", "()V")), 15: m.handle(5, m.member_constant(10, "f", "()V")),
    }
    return [0, wide + 1, m.numbers + 1, 65535] + [there[tag] for tag in there if tag not in right]


class Naming(FileCase):
    def breaks_eight(self, add, *right):
        """add makes the constant under test of a number that it may not name, as the last one."""
        for k in range(len(wrong_numbers(Maker(), *right))):
            m = Maker()
            wrong = wrong_numbers(m, *right)[k]
            n = add(m, wrong)
            with self.subTest(wrong=wrong):
                self.assertEqual(n, m.numbers - 1)
                self.breaks(m, 8, "constant", n)
                self.breaks_cut(m, ("flags",), 8, "constant", n)

    def test_class(self):
        self.breaks_eight(lambda m, wrong: m.one(7, wrong), 1)

    def test_string(self):
        self.breaks_eight(lambda m, wrong: m.one(8, wrong), 1)

    def test_method_sort(self):
        self.breaks_eight(lambda m, wrong: m.one(16, wrong), 1)

    def test_name_with_a_sort(self):
        self.breaks_eight(lambda m, wrong: m.two(12, wrong, m.text("I")), 1)
        self.breaks_eight(lambda m, wrong: m.two(12, m.text("t"), wrong), 1)

    def test_owner(self):
        for tag, sort in ((9, "I"), (10, "()V"), (11, "()V")):
            self.breaks_eight(lambda m, wrong: m.two(tag, wrong, m.named("x", sort)), 7)
            self.breaks_eight(lambda m, wrong: m.two(tag, m.this, wrong), 12)

    def test_call_site(self):
        self.breaks_eight(lambda m, wrong: m.two(18, 0, wrong), 12)

    def test_handle(self):
        fits = {1: (9,), 2: (9,), 3: (9,), 4: (9,), 5: (10,), 6: (10, 11), 7: (10, 11), 8: (10,), 9: (11,)}
        for kind, right in fits.items():
            self.breaks_eight(lambda m, wrong: m.handle(kind, wrong), *right)
            for tag in right:
                m = Maker()
                m.handle(kind, m.member_constant(tag, "f", "I" if tag == 9 else "()V"))
                self.keeps(m)

    def test_the_number_behind_the_last_one(self):
        m = Maker()
        n = m.one(8, m.numbers + 1)
        self.breaks(m, 8, "constant", n)

    def test_itself(self):
        m = Maker()
        n = m.one(7, m.numbers)
        self.breaks(m, 8, "constant", n)

    def test_a_call_site_has_any_first_number(self):
        for number in (0, 1, 65535):
            m = Maker()
            m.two(18, number, m.named("f", "()V"))
            self.keeps(m)

    def test_later_numbers_may_be_named(self):
        m = Maker()
        n = m.numbers
        m.two(10, n + 1, n + 2)
        m.one(7, n + 3)
        m.two(12, n + 4, n + 5)
        m.raw_text("p/Q")
        m.raw_text("f")
        m.raw_text("()V")
        self.keeps(m)


class TextsOfANamedOne(FileCase):
    """Who names a name with a type asks for its two texts too, before that one comes to its turn."""

    def test_before_it(self):
        for tag in (9, 10, 11, 18):
            for first in (True, False):
                m = Maker()
                text = m.text("t")
                n = m.two(tag, m.this, m.numbers + 1)
                m.two(12, m.this if first else text, text if first else m.this)
                with self.subTest(tag=tag, first=first):
                    self.breaks(m, 8, "constant", n)

    def test_behind_it(self):
        for tag in (9, 10, 11, 18):
            m = Maker()
            named = m.two(12, m.this, m.text("I"))
            m.two(tag, m.this, named)
            self.breaks(m, 8, "constant", named)

    def test_a_class_is_not_asked_for_its_text(self):
        m = Maker()
        named = m.named("x", "I")
        n = m.two(9, m.numbers + 1, named)
        m.one(7, 0)
        self.breaks(m, 8, "constant", n + 1)


class ClassNames(FileCase):
    def test_names(self):
        for name in CLASS_NAMES:
            m = Maker()
            m.named_class(name)
            with self.subTest(name=name):
                self.keeps(m)

    def test_others(self):
        for name in NO_CLASS_NAMES:
            m = Maker()
            n = m.named_class(name)
            with self.subTest(name=name):
                self.breaks(m, 9, "constant", n)
                self.breaks_cut(m, ("flags",), 9, "constant", n)


class NamedOnes(FileCase):
    def test_names(self):
        for name in ("x", "<x>", "<init>", "<clinit>", "a-b", "(", "V", ")", ":", " "):
            m = Maker()
            m.named(name, "I")
            m.named(name, "()V")
            self.keeps(m)

    def test_other_names(self):
        for name in NO_SIMPLE_NAMES:
            m = Maker()
            n = m.named(name, "I")
            self.breaks(m, 9, "constant", n)

    def test_sorts(self):
        for sort in FIELD_SORTS + METHOD_SORTS:
            m = Maker()
            m.named("x", sort)
            with self.subTest(sort=sort):
                self.keeps(m)

    def test_other_sorts(self):
        for sort in NO_FIELD_SORTS + NO_METHOD_SORTS:
            if sort not in FIELD_SORTS + METHOD_SORTS:
                m = Maker()
                n = m.named("x", sort)
                with self.subTest(sort=sort):
                    self.breaks(m, 10, "constant", n)

    def test_order(self):
        m = Maker()
        n = m.two(12, m.text("a.b"), 0)
        self.breaks(m, 8, "constant", n)
        m = Maker()
        n = m.two(12, m.text("a.b"), m.text("X"))
        self.breaks(m, 9, "constant", n)


class Fields(FileCase):
    def test_sorts(self):
        for sort in FIELD_SORTS:
            m = Maker()
            m.member_constant(9, "x", sort)
            self.keeps(m)

    def test_a_methods_sort(self):
        for sort in METHOD_SORTS:
            m = Maker()
            n = m.member_constant(9, "x", sort)
            with self.subTest(sort=sort):
                self.breaks(m, 10, "constant", n)

    def test_any_simple_name(self):
        for name in ("<init>", "<clinit>", "<x>"):
            m = Maker()
            m.member_constant(9, name, "I")
            self.keeps(m)

    def test_its_name_is_looked_at_where_it_stands(self):
        m = Maker()
        texts = [m.text("a.b"), m.text("I")]
        n = m.two(9, m.this, m.numbers + 1)
        m.two(12, *texts)
        self.breaks(m, 9, "constant", n + 1)

    def test_order(self):
        m = Maker()
        n = m.two(9, m.text("x"), m.named("x", "()V"))
        self.breaks(m, 8, "constant", n)


class Methods(FileCase):
    def test_sorts(self):
        for tag in (10, 11):
            for sort in METHOD_SORTS:
                m = Maker()
                m.member_constant(tag, "x", sort)
                self.keeps(m)

    def test_a_fields_sort(self):
        for tag in (10, 11):
            for sort in FIELD_SORTS:
                m = Maker()
                n = m.member_constant(tag, "x", sort)
                with self.subTest(sort=sort):
                    self.breaks(m, 10, "constant", n)

    def test_names(self):
        for tag in (10, 11):
            for name in ("<clinit>", "<x>", "a<", ">", "<init", "init>", "<init>x", "<Init>"):
                m = Maker()
                n = m.member_constant(tag, name, "()V")
                with self.subTest(tag=tag, name=name):
                    self.breaks(m, 9, "constant", n)

    def test_init(self):
        m = Maker()
        m.member_constant(10, "<init>", "(IJ)V")
        self.keeps(m)
        for tag, sort in ((10, "()I"), (10, "()LV;"), (10, "(V)I"), (11, "()V"), (11, "()I")):
            m = Maker()
            texts = [m.text("<init>"), m.text(sort)]
            n = m.two(tag, m.this, m.numbers + 1)
            m.two(12, *texts)
            with self.subTest(tag=tag, sort=sort):
                self.breaks(m, 10 if sort == "(V)I" else 9, "constant", n)

    def test_a_name_that_is_not_simple_is_told_by_the_first_who_asks(self):
        for tag in (10, 11, 18):
            for name in NO_SIMPLE_NAMES:
                m = Maker()
                texts = [m.text(name), m.text("()V")]
                n = m.two(tag, m.this, m.numbers + 1)
                m.two(12, *texts)
                self.breaks(m, 9, "constant", n)

    def test_sort_before_name(self):
        for tag in (10, 11, 18):
            m = Maker()
            n = m.member_constant(tag, "<x>", "I")
            self.breaks(m, 10, "constant", n)

    def test_what_is_named_before_the_sort(self):
        for tag in (10, 11):
            m = Maker()
            n = m.two(tag, 0, m.named("<x>", "I"))
            self.breaks(m, 8, "constant", n)


class Handles(FileCase):
    def test_kinds(self):
        for kind in [0] + list(range(10, 256)):
            m = Maker()
            n = m.handle(kind, m.member_constant(10, "f", "()V"))
            self.breaks(m, 11, "constant", n)
            self.breaks_cut(m, ("flags",), 11, "constant", n)

    def test_kind_before_what_is_named(self):
        for kind in (0, 10):
            m = Maker()
            n = m.handle(kind, 0)
            self.breaks(m, 11, "constant", n)


class MethodSorts(FileCase):
    def test_sorts(self):
        for sort in METHOD_SORTS:
            m = Maker()
            m.one(16, m.text(sort))
            self.keeps(m)

    def test_others(self):
        for sort in NO_METHOD_SORTS:
            m = Maker()
            n = m.one(16, m.text(sort))
            with self.subTest(sort=sort):
                self.breaks(m, 10, "constant", n)
                self.breaks_cut(m, ("flags",), 10, "constant", n)


class CallSites(FileCase):
    def test_sort(self):
        m = Maker()
        n = m.two(18, 0, m.named("f", "I"))
        self.breaks(m, 10, "constant", n)

    def test_names(self):
        m = Maker()
        m.two(18, 0, m.named("f", "(J)I"))
        self.keeps(m)
        for name in ("<init>", "<clinit>", "<x>", "a>"):
            m = Maker()
            n = m.two(18, 0, m.named(name, "()V"))
            self.breaks(m, 9, "constant", n)


class ByNumber(FileCase):
    def test_the_lowest_number_first(self):
        m = Maker()
        n = m.handle(0, 0)
        m.one(7, 0)
        self.breaks(m, 11, "constant", n)
        m = Maker()
        n = m.named("x", "X")
        m.handle(0, 0)
        self.breaks(m, 10, "constant", n)

    def test_before_the_flags(self):
        m = Maker()
        n = m.one(8, 0)
        m.flags = 0x410
        self.breaks(m, 8, "constant", n)


if __name__ == "__main__":
    unittest.main()
