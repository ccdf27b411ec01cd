"""The calls pair, uses and told, which ask about constants."""

import unittest

from asking import MOST, PAIR, TOLD, USES, asked, asked_all
from maker import Maker, full_maker, row_of
from small import SMALL


def told(content, number):
    """The bytes that are told of a constant; how many stands before them."""
    given = asked(content, [TOLD, number])[0]
    if given[0] != len(given) - 1:
        raise AssertionError(given)
    return bytes(given[1:])


def no_constants(m):
    """Numbers under which the maker's file, made as it is now, has no constant."""
    behind = [number + 1 for number, tag, parts in m.constants if tag in (5, 6)]
    return behind + [0, m.numbers, m.numbers + 1, 65535, 65536, MOST - 1, MOST]


class Pair(unittest.TestCase):
    def test_two_numbers(self):
        m = Maker()
        named = m.named("f", "()V")
        field_named = m.named("x", "I")
        field = m.two(9, m.this, field_named)
        method = m.two(10, m.this, named)
        face = m.two(11, m.parent, named)
        handles = [m.handle(kind, field) for kind in (1, 2, 3, 4)] + [m.handle(8, method), m.handle(9, face)]
        site = m.two(18, 65535, named)
        low = m.two(18, 0, named)
        calls = [[PAIR, number] for number in [named, field_named, field, method, face] + handles + [site, low]]
        self.assertEqual(asked(m.build().content, *calls), [
            [0, m.text("f"), m.text("()V")], [0, m.text("x"), m.text("I")], [0, m.this, field_named],
            [0, m.this, named], [0, m.parent, named], [0, 1, field], [0, 2, field], [0, 3, field], [0, 4, field],
            [0, 8, method], [0, 9, face], [0, 65535, named], [0, 0, named],
        ])

    def test_one_number_and_0(self):
        m = Maker()
        text = m.text("()V")
        string = m.one(8, text)
        sort = m.one(16, text)
        array = m.named_class("[I")
        given = asked(m.build().content, [PAIR, string], [PAIR, sort], [PAIR, m.this], [PAIR, array])
        self.assertEqual(given, [[0, text, 0], [0, text, 0], [0, m.text("A"), 0], [0, m.text("[I"), 0]])

    def test_numbers_over_255(self):
        m = Maker()
        for k in range(300):
            m.raw_text("")
        name, sort = m.raw_text("x"), m.raw_text("I")
        named = m.two(12, name, sort)
        self.assertTrue(name > 255)
        self.assertEqual(asked(m.build().content, [PAIR, named]), [[0, name, sort]])

    def test_other_tags(self):
        m = full_maker()
        numbers = [number for number, tag, parts in m.constants if tag in (1, 3, 4, 5, 6)]
        tags = {tag for number, tag, parts in m.constants if number in numbers}
        self.assertEqual(tags, {1, 3, 4, 5, 6})
        given = asked_all(m.build().content, [[PAIR, number] for number in numbers])
        self.assertEqual(given, [[-1]] * len(numbers))

    def test_no_constant(self):
        m = full_maker()
        numbers = no_constants(m)
        self.assertEqual(asked(m.build().content, *[[PAIR, i] for i in numbers]), [[-1]] * len(numbers))

    def test_the_last_one(self):
        m = Maker()
        n = m.one(8, m.text("A"))
        self.assertEqual(asked(m.build().content, [PAIR, n], [PAIR, n + 1]), [[0, m.text("A"), 0], [-1]])

    def test_of_a_compiled_file(self):
        calls = [[PAIR, i] for i in (1, 2, 3, 7, 11, 33, 40, 47, 4, 29, 30, 0, 57)]
        self.assertEqual(asked(SMALL, *calls), [
            [0, 2, 3], [0, 4, 0], [0, 5, 6], [0, 0, 8], [0, 12, 13], [0, 34, 0], [0, 6, 41], [0, 15, 0],
            [-1], [-1], [-1], [-1], [-1],
        ])


class Uses(unittest.TestCase):
    def test_nobody(self):
        m = Maker()
        numbers = [
            m.raw_text("A"), m.integer(), m.long(), m.constant(4, (1, 4)), m.constant(6, (1, 8)), m.named("q", "I"),
            m.one(8, m.text("A")), m.parent, m.one(16, m.text("()V")), m.two(18, 0, m.named("q", "()V")),
            m.member_constant(9, "q", "I"), m.handle(5, m.member_constant(10, "q", "()V")),
            m.member_constant(11, "q", "()V"),
        ]
        self.assertEqual(asked(m.build().content, *[[USES, n] for n in numbers]), [[0]] * len(numbers))

    def test_each_tag_that_names(self):
        m = Maker()
        text, sort, simple = m.raw_text("()V"), m.raw_text("I"), m.raw_text("f")
        users = [m.one(8, text), m.one(16, text), m.one(7, text), m.two(12, simple, text), m.two(12, text, sort)]
        named, plain = users[3], users[4]
        owned = [m.two(10, users[2], named), m.two(11, users[2], named), m.two(9, users[2], plain)]
        site = m.two(18, 0, named)
        handles = [m.handle(kind, owned[0]) for kind in (5, 6, 7, 8)]
        others = [m.handle(9, owned[1]), m.handle(1, owned[2])]
        calls = [[USES, i] for i in [text, sort, simple, users[2], named, plain] + owned + [site] + others]
        self.assertEqual(asked(m.build().content, *calls), [
            [5] + users, [1, plain], [1, named], [3] + owned, [3, owned[0], owned[1], site], [1, owned[2]],
            [4] + handles, [1, others[0]], [1, others[1]], [0], [0], [0],
        ])

    def test_rising_though_named_before_and_behind(self):
        m = Maker()
        n = m.numbers + 3
        before = [m.one(8, n), m.one(7, n), m.one(8, n)]
        self.assertEqual(m.raw_text("t"), n)
        behind = [m.one(8, n), m.one(7, n)]
        self.assertEqual(asked(m.build().content, [USES, n]), [[5] + before + behind])

    def test_twice_by_one_constant(self):
        m = Maker()
        text = m.raw_text("I")
        named = m.two(12, text, text)
        again = m.two(12, text, m.text("J"))
        self.assertEqual(asked(m.build().content, [USES, text]), [[2, named, again]])
        self.assertEqual(asked(m.build().content, [USES, m.text("J")]), [[1, again]])

    def test_a_call_sites_first_number(self):
        m = Maker()
        named = m.named("f", "()V")
        text, string = m.text("s"), m.one(8, m.text("s"))
        m.two(18, text, named)
        m.two(18, string, named)
        site = m.two(18, named, named)
        itself = m.two(18, m.numbers, named)
        calls = [[USES, i] for i in (text, string, named, itself, site)]
        self.assertEqual(asked(m.build().content, *calls), [
            [1, string], [0], [4, site - 2, site - 1, site, itself], [0], [0],
        ])

    def test_a_handles_kind(self):
        m = Maker()
        m.constants, m.known, m.numbers = [], {}, 1
        texts = [m.raw_text(f"t{k}") for k in range(9)]
        self.assertEqual(texts, [1, 2, 3, 4, 5, 6, 7, 8, 9])
        m.this = m.named_class("A")
        m.parent = 0
        field, method = m.member_constant(9, "x", "I"), m.member_constant(10, "f", "()V")
        face = m.member_constant(11, "f", "()V")
        handles = [m.handle(kind, field) for kind in (1, 2, 3, 4)] + [m.handle(kind, method) for kind in (5, 6, 7, 8)]
        handles.append(m.handle(9, face))
        content = m.build().content
        self.assertEqual(asked(content, *[[USES, text] for text in texts]), [[0]] * 9)
        given = asked(content, [USES, field], [USES, method], [USES, face])
        self.assertEqual(given, [[4] + handles[:4], [4] + handles[4:8], [1, handles[8]]])

    def test_a_handle_whose_kind_is_its_constants_number(self):
        m = Maker()
        m.constants, m.known, m.numbers = [], {}, 1
        m.this, m.parent = m.named_class("A"), 0
        named = m.named("x", "I")
        field = m.two(9, m.this, named)
        self.assertEqual(field, 6)
        method = m.two(10, m.this, m.named("f", "()V"))
        handles = [m.handle(6, method), m.handle(1, field)]
        given = asked(m.build().content, [USES, field], [USES, method])
        self.assertEqual(given, [[1, handles[1]], [1, handles[0]]])

    def test_what_stands_in_texts_and_numbers_names_nothing(self):
        m = Maker()
        n = m.raw_text("t")
        m.integer(n)
        m.long(n)
        m.constant(4, (n, 4))
        m.constant(6, (n, 8))
        m.raw_text([0x20] * n)
        self.assertEqual(asked(m.build().content, [USES, n]), [[0]])

    def test_where_a_text_stands_names_nothing(self):
        m = Maker()
        content = m.build().content
        places = [asked(content, [7, number])[0][1] for number, tag, parts in m.constants if tag == 1]
        for k in range(100):
            m.raw_text("")
        given = asked_all(m.build().content, [[USES, place] for place in places])
        self.assertEqual(given, [[0]] * len(places))

    def test_who_is_no_constant_names_nothing(self):
        m = Maker()
        text, sort, code = m.raw_text("x"), m.raw_text("I"), m.raw_text("()V")
        face = m.named_class("I")
        m.interfaces = [face]
        m.field(0, text, sort, m.attribute(text))
        m.method(0x400, text, code)
        m.attributes = [m.attribute(text, [0, text])]
        calls = [[USES, i] for i in (text, sort, code, face, m.this, m.parent)]
        self.assertEqual(asked(m.build().content, *calls), [[0]] * 6)

    def test_no_constant(self):
        m = full_maker()
        numbers = no_constants(m)
        self.assertEqual(asked(m.build().content, *[[USES, i] for i in numbers]), [[-1]] * len(numbers))

    def test_a_number_that_is_no_constant_though_it_stands_there(self):
        m = Maker()
        m.two(18, 0, m.named("f", "()V"))
        m.two(18, 65535, m.named("f", "()V"))
        self.assertEqual(asked(m.build().content, [USES, 0], [USES, 65535]), [[-1], [-1]])

    def test_many(self):
        m = Maker()
        users = [m.one(8, m.text("A")) for k in range(1200)]
        given = asked(m.build().content, [USES, m.text("A")])
        self.assertEqual(given, [[1201, m.this] + users])

    def test_of_a_compiled_file(self):
        calls = [[USES, i] for i in (9, 15, 2, 22, 1, 6, 12, 29, 30, 0, 56, 57)]
        self.assertEqual(asked(SMALL, *calls), [
            [2, 8, 13], [3, 13, 47, 50], [1, 1], [1, 49], [0], [1, 3], [1, 11], [0], [-1], [-1], [0], [-1],
        ])


class Told(unittest.TestCase):
    def test_a_text(self):
        m = Maker()
        for row in ("t", "a.b:c", [0xC0, 0x80], [0xED, 0xA0, 0x80, 0x7F, 0x01], [0xC3, 0xA9], "I" * 3000):
            n = m.raw_text(row)
            self.assertEqual(told(m.build().content, n), bytes(row_of(row)))
            m = Maker()

    def test_an_empty_text(self):
        m = Maker()
        n = m.raw_text("")
        string = m.one(8, n)
        self.assertEqual(asked(m.build().content, [TOLD, n], [TOLD, string]), [[0], [0]])

    def test_a_class_a_string_a_methods_sort(self):
        m = Maker()
        calls = [m.named_class("p/q/R"), m.named_class("[[Lp/R;"), m.one(8, m.text("x:y")), m.one(16, m.text("(J)[I"))]
        content = m.build().content
        self.assertEqual([told(content, n) for n in calls], [b"p/q/R", b"[[Lp/R;", b"x:y", b"(J)[I"])

    def test_a_name_with_a_sort(self):
        m = Maker()
        numbers = [m.named("x", "I"), m.named("<clinit>", "()V"), m.named(":", "J"), m.named("I", "I")]
        content = m.build().content
        self.assertEqual([told(content, n) for n in numbers], [b"x:I", b"<clinit>:()V", b"::J", b"I:I"])

    def test_a_call_site(self):
        m = Maker()
        numbers = [m.two(18, first, m.named("get", "(LA;)LB;")) for first in (0, m.this, 65535)]
        content = m.build().content
        self.assertEqual([told(content, n) for n in numbers], [b"get:(LA;)LB;"] * 3)

    def test_a_field_and_methods(self):
        m = Maker()
        numbers = [
            m.member_constant(9, "x", "[J"), m.member_constant(10, "<init>", "(I)V"), m.member_constant(11, "f", "()V"),
            m.two(10, m.named_class("[I"), m.named("clone", "()Ljava/lang/Object;")),
            m.two(9, m.parent, m.named("<x>", "LA;")),
        ]
        content = m.build().content
        self.assertEqual([told(content, n) for n in numbers], [
            b"A.x:[J", b"A.<init>:(I)V", b"A.f:()V", b"[I.clone:()Ljava/lang/Object;", b"java/lang/Object.<x>:LA;",
        ])

    def test_bytes_over_127(self):
        m = Maker()
        name = m.raw_text([0xC3, 0xA9])
        owner = m.one(7, m.raw_text([0xE2, 0x82, 0xAC]))
        n = m.two(9, owner, m.two(12, name, m.text("I")))
        self.assertEqual(told(m.build().content, n), b"\xe2\x82\xac.\xc3\xa9:I")

    def test_longer_than_the_file(self):
        m = Maker()
        text = m.raw_text("La" + "/b" * 1800 + ";")
        owner = m.one(7, m.raw_text("[La/b;"))
        n = m.two(9, owner, m.two(12, m.text("A"), text))
        self.assertEqual(told(m.build().content, n), b"[La/b;.A:La" + b"/b" * 1800 + b";")
        m = Maker()
        word = m.raw_text("L" * 3000)
        names = m.two(12, word, m.text("I"))
        n = m.two(9, m.one(7, word), names)
        given = told(m.build().content, n)
        self.assertEqual(given, b"L" * 3000 + b"." + b"L" * 3000 + b":I")

    def test_other_tags(self):
        m = full_maker()
        numbers = [number for number, tag, parts in m.constants if tag in (3, 4, 5, 6, 15)]
        tags = {tag for number, tag, parts in m.constants if number in numbers}
        self.assertEqual(tags, {3, 4, 5, 6, 15})
        self.assertEqual(asked(m.build().content, *[[TOLD, n] for n in numbers]), [[-1]] * len(numbers))

    def test_no_constant(self):
        m = full_maker()
        numbers = no_constants(m)
        self.assertEqual(asked(m.build().content, *[[TOLD, i] for i in numbers]), [[-1]] * len(numbers))

    def test_of_a_compiled_file(self):
        self.assertEqual(told(SMALL, 1), b"java/lang/Object.<init>:()V")
        self.assertEqual(told(SMALL, 7), b"get:(LSmall;)Ljava/util/function/Supplier;")
        self.assertEqual(told(SMALL, 11), b"java/util/function/Supplier.get:()Ljava/lang/Object;")
        self.assertEqual(told(SMALL, 22), b"Small")
        self.assertEqual(told(SMALL, 33), b"a\xc0\x80\xc3\xa9")
        self.assertEqual(told(SMALL, 47), b"()Ljava/lang/Object;")
        self.assertEqual(told(SMALL, 56), b"Lookup")
        self.assertEqual(asked(SMALL, [TOLD, 40], [TOLD, 29], [TOLD, 30], [TOLD, 57]), [[-1]] * 4)


if __name__ == "__main__":
    unittest.main()
