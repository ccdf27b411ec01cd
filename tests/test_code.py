"""Rules 1, 8, 14 and 15 in the inside of Code."""

import unittest

from maker import CODE, FileCase, Maker, code_piece


def with_code(m, **parts):
    m.method(1, "f", "()V", m.code(**parts))
    return m


class Length(FileCase):
    def test_none(self):
        m = with_code(Maker(), length=0, row=[])
        self.breaks(m, 15, *CODE, "length")

    def test_one(self):
        self.keeps(with_code(Maker(), row=[0]))

    def test_as_many_as_a_file_may_have(self):
        self.keeps(with_code(Maker(), row=[0] * 3900))

    def test_65535_needs_its_bytes(self):
        m = with_code(Maker(), length=65535)
        self.breaks(m, 1, *CODE, "code")

    def test_too_many(self):
        for length in (65536, 65537, 0x01000001, 0x7FFFFFFF, 0xFFFFFFFF):
            m = with_code(Maker(), length=length)
            self.breaks(m, 15, *CODE, "length")

    def test_before_the_codes_bytes(self):
        for length in (0, 65536):
            m = with_code(Maker(), length=length, cut=8)
            self.breaks_cut(m, ("file", "attributes"), 15, *CODE, "length")

    def test_stack_and_variables_are_free(self):
        for stack, variables in ((0, 0), (65535, 0), (0, 65535)):
            self.keeps(with_code(Maker(), stack=stack, variables=variables))


class MissingBytes(FileCase):
    def test_every_beginning_at_the_files_end(self):
        m = Maker()
        parts = {
            "row": [1, 2, 3], "handlers": [(0, 1, 0, 0), (0, 3, 2, m.this)],
            "attributes": [m.attribute("X", [1, 2, 3]), m.attribute("Y")],
        }
        inside = code_piece(**parts)
        m.method(1, "f", "()V", None)
        for cut in range(len(inside.content)):
            m.methods[0] = m.methods[0][:3] + ((m.code(cut=cut, **parts),),)
            piece = m.build()
            start = piece.places[CODE]
            ends = inside.items[1:] + [len(inside.content)]
            place = [first for first, end in zip(inside.items, ends) if end > cut][0]
            with self.subTest(cut=cut):
                self.assertEqual(self.told(piece.content[:start + cut]), [2, 1, start + place])

    def test_more_handlers_than_there_are(self):
        m = with_code(Maker(), handlers=[(0, 1, 0, 0)])
        piece = m.build()
        content = piece.content[:piece.places["file", "attributes"]]
        content[piece.places[CODE + ("handlers",)] + 1] = 2
        # The second handler's from is what stood for the attributes' number: 0 of them.
        self.assertEqual(self.told(content), [2, 1, len(content)])


class Handlers(FileCase):
    def test_kept(self):
        for handler in ((0, 1, 0, 0), (0, 3, 2, 0), (2, 3, 0, 0), (1, 2, 1, 0)):
            self.keeps(with_code(Maker(), row=[0] * 3, handlers=[handler]))
            m = Maker()
            self.keeps(with_code(m, row=[0] * 3, handlers=[handler[:3] + (m.this,)]))

    def test_a_class_may_be_an_array(self):
        m = Maker()
        self.keeps(with_code(m, handlers=[(0, 1, 0, m.named_class("[I"))]))

    def test_out_of_bounds(self):
        for handler in ((0, 0, 0), (1, 1, 0), (2, 1, 0), (0, 4, 0), (3, 4, 0), (3, 3, 0), (0, 3, 3), (0, 3, 65535),
                        (65535, 1, 0), (0, 65535, 0), (0, 0, 3)):
            m = with_code(Maker(), row=[0] * 3, handlers=[(0, 1, 0, 0), handler + (0,)])
            with self.subTest(handler=handler):
                self.breaks(m, 15, *CODE, "handler", 1, "from")

    def test_no_class(self):
        for k in range(4):
            m = Maker()
            wide = m.long()
            m.text("Code")
            wrong = (m.text("A"), wide + 1, m.numbers + 2, 65535)[k]
            with_code(m, handlers=[(0, 1, 0, 0), (0, 1, 0, wrong)])
            self.breaks(m, 8, *CODE, "handler", 1, "from")

    def test_bounds_before_the_class(self):
        m = with_code(Maker(), handlers=[(0, 0, 0, 65535)])
        self.breaks(m, 15, *CODE, "handler", 0, "from")

    def test_when_all_four_are_read(self):
        for cut in ("to", "target", "class"):
            m = with_code(Maker(), handlers=[(5, 5, 5, 65535)])
            piece = m.build()
            place = piece.places[CODE + ("handler", 0, cut)]
            m = with_code(Maker(), handlers=[(5, 5, 5, 65535)], cut=place - piece.places[CODE])
            self.breaks_cut(m, ("file", "attributes"), 1, *CODE, "handler", 0, cut)

    def test_before_the_next_one(self):
        m = with_code(Maker(), handlers=[(0, 1, 0, 65535), (1, 1, 0, 0)])
        self.breaks(m, 8, *CODE, "handler", 0, "from")


class InnerAttributes(FileCase):
    def test_heads(self):
        for k in range(5):
            m = Maker()
            wide = m.long()
            wrong = (0, m.this, wide + 1, m.numbers + 4, 65535)[k]
            with_code(m, attributes=[m.attribute("X", [1]), m.attribute(wrong, [], 0xFFFFFFFF)])
            self.breaks(m, 8, *CODE, "attribute", 1)

    def test_before_its_length_is_read(self):
        m = with_code(Maker(), attributes=[(0, [], None)], cut=17)
        self.breaks_cut(m, ("file", "attributes"), 8, *CODE, "attribute", 0)

    def test_bytes_that_are_not_there(self):
        m = Maker()
        with_code(m, attributes=[m.attribute("X", [1], 5000)])
        self.breaks(m, 1, *CODE, "attribute", 0, "bytes")

    def test_heads_alone(self):
        m = Maker()
        inner = [m.attribute("Code"), m.attribute("Code", [1]), m.attribute("ConstantValue")]
        with_code(m, attributes=inner + inner)
        self.keeps(m)


class WhereItEnds(FileCase):
    def test_bytes_behind_the_inside(self):
        for extra in (1, 2, 100):
            m = Maker()
            piece = code_piece()
            piece.content.extend([0] * extra)
            m.method(1, "f", "()V", m.attribute("Code", piece))
            self.breaks(m, 14, *CODE)

    def led_past(self, behind):
        """A file that is sound by its heads; the code's seven bytes reach over the next attribute's head."""
        m = Maker()
        inside = [0, 2, 0, 3, 0, 0, 0, 7, 0xB1]
        m.method(1, "f", "()V", m.attribute("Code", inside), m.attribute("X", behind))
        return m

    def test_the_inside_leads_past_the_end(self):
        m = self.led_past([0, 0, 0, 0])
        self.breaks(m, 14, *CODE)

    def test_the_inside_is_broken_past_the_end(self):
        m = self.led_past([0, 1, 0, 0, 0, 8, 0, 0, 0, 0, 0, 0])
        self.breaks(m, 15, "method", 0, "attribute", 1, "bytes", behind=2)
        m = self.led_past([0, 1, 0, 0, 0, 7, 0, 0, 255, 255, 0, 0])
        self.breaks(m, 8, "method", 0, "attribute", 1, "bytes", behind=2)
        m = self.led_past([0, 0, 0, 1, 0, 0])
        self.breaks(m, 8, "method", 0, "attribute", 1, "bytes", behind=4)

    def test_the_inside_is_sound_but_longer_than_told(self):
        for size in (0, 1, 4, 8, 12):
            m = Maker()
            m.method(1, "f", "()V", m.attribute("Code"))
            inside = code_piece().content
            m.methods[0] = m.methods[0][:3] + ((m.attribute("Code", inside[:size]),),)
            start = m.build().places[CODE]
            content = m.build().content[:start] + inside
            self.assertEqual(self.told(content), [2, 14, start])

    def test_past_the_end_a_broken_rule_is_told_first(self):
        m = Maker()
        m.method(1, "f", "()V", m.attribute("Code"))
        start = m.build().places[CODE]
        inside = code_piece(handlers=[(1, 1, 0, 0)])
        content = m.build().content[:start] + inside.content
        self.assertEqual(self.told(content), [2, 15, start + inside.places["handler", 0, "from"]])
        content = content[:start + inside.places["handler", 0, "class"]]
        self.assertEqual(self.told(content), [2, 1, len(content)])

    def test_what_comes_behind_is_read_from_the_attributes_end(self):
        m = Maker()
        m.method(1, "f", "()V", m.attribute("X", [1]), m.code(), m.attribute("Y", [2, 3]))
        m.method(1, "g", "()V", m.code(row=[0] * 9))
        self.keeps(m)

    def test_before_the_next_method(self):
        m = Maker()
        m.method(1, "f", "()V", m.code(length=0, row=[]))
        m.method(3, "g", "()V")
        self.breaks(m, 15, *CODE, "length")

    def test_a_later_methods_code(self):
        m = with_code(Maker())
        m.method(1, "g", "()V", m.attribute("X"), m.code(length=0, row=[]))
        self.breaks(m, 15, "method", 1, "attribute", 1, "bytes", "length")


if __name__ == "__main__":
    unittest.main()
