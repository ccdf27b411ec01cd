"""Rules 1 to 7: what stands before the flags; and how long a row may be."""

import re
import unittest

from classfiles.desk import answers
from classfiles.spelling import is_character_row
from maker import FileCase, Maker, full_maker

TAGS = (1, 3, 4, 5, 6, 7, 8, 9, 10, 11, 12, 15, 16, 18)

# The document's sentence on characters, written another way than the program does.
ALL_CHARACTERS = re.compile(
    rb"(?:[\x01-\x7F]|\xC0\x80|[\xC2-\xDF][\x80-\xBF]|\xE0[\xA0-\xBF][\x80-\xBF]|[\xE1-\xEF][\x80-\xBF]{2})*"
)

CHARACTERS = (
    [], [0x01], [0x7F], [0xC0, 0x80], [0xC2, 0x80], [0xC2, 0xBF], [0xDF, 0x80], [0xDF, 0xBF],
    [0xE0, 0xA0, 0x80], [0xE0, 0xBF, 0xBF], [0xE1, 0x80, 0x80], [0xED, 0xA0, 0x80], [0xEF, 0xBF, 0xBF],
    [0x41, 0xC0, 0x80, 0xE1, 0x80, 0x80, 0x42],
)

NO_CHARACTERS = (
    [0x00], [0x80], [0xBF], [0x41, 0x00], [0x00, 0x41],
    [0xC0], [0xC0, 0x7F], [0xC0, 0xC0], [0xC0, 0x81], [0xC0, 0xBF], [0xC1, 0x80], [0xC1, 0xBF],
    [0xC2], [0xC2, 0x7F], [0xC2, 0xC0], [0xC2, 0x41], [0xDF], [0xDF, 0x7F], [0xDF, 0xC0],
    [0xE0, 0x80, 0x80], [0xE0, 0x9F, 0xBF], [0xE0, 0xA0], [0xE0, 0xA0, 0x7F], [0xE0, 0xA0, 0xC0],
    [0xE1], [0xE1, 0x80], [0xE1, 0x7F, 0x80], [0xE1, 0xC0, 0x80], [0xEF, 0xBF, 0x41], [0xEF, 0x41, 0xBF],
    [0xC2, 0x80, 0x80], [0xE1, 0x80, 0x80, 0x80],
    [0xBF, 0x80], [0x9F, 0xBF], [0x8F, 0x80, 0x80], [0xBF, 0xBF, 0xBF], [0xE0, 0x9F, 0x81],
    [0xF0, 0xA0, 0x80], [0xF1, 0x80, 0x80], [0xFF, 0xBF, 0xBF], [0xF0, 0x90, 0x80, 0x80], [0xF0], [0xF8, 0x80], [0xFF], [0x41, 0xC2], [0x41, 0xE1, 0x80],
)


class BytesThere(FileCase):
    def test_empty_row(self):
        self.assertEqual(self.told([]), [2, 1, 0])

    def test_every_beginning_lacks_the_item_that_is_cut(self):
        piece = full_maker().build()
        for cut in range(len(piece.content)):
            ends = piece.items[1:] + [len(piece.content)]
            place = [start for start, end in zip(piece.items, ends) if end > cut][0]
            with self.subTest(cut=cut):
                self.assertEqual(self.told(piece.content[:cut]), [2, 1, place])

    def test_a_number_is_one_item(self):
        m = Maker()
        n = m.long()
        piece = m.build()
        start = piece.places["constant", n, 0]
        for cut in range(start, start + 8):
            self.assertEqual(self.told(piece.content[:cut]), [2, 1, start])

    def test_a_text_longer_than_the_file(self):
        m = Maker()
        n = m.constant(1, (65535, 2), [0])
        self.breaks(m, 1, "constant", n, "bytes")

    def test_missing_bytes_come_before_characters(self):
        m = Maker()
        n = m.constant(1, (2, 2), [0])
        self.breaks_cut(m, ("flags",), 1, "constant", n, "bytes")

    def test_an_attribute_longer_than_the_file(self):
        for size in (4, 0x7FFFFFFF, 0xFFFFFFFF):
            m = Maker()
            m.attributes = [m.attribute("X", [1, 2, 3], size)]
            self.breaks(m, 1, "file", "attribute", 0, "bytes")


class Magic(FileCase):
    def test_another_first_number(self):
        for magic in (0, 0xCAFEBABF, 0xCAFEBABD, 0xBEBAFECA, 0x4AFEBABE):
            m = Maker()
            m.magic = magic
            self.breaks(m, 2, "magic")
            self.breaks_cut(m, ("minor",), 2, "magic")

    def test_all_four_bytes_are_needed_first(self):
        self.assertEqual(self.told([0]), [2, 1, 0])
        self.assertEqual(self.told([1, 2, 3]), [2, 1, 0])
        self.assertEqual(self.told([1, 2, 3, 4]), [2, 2, 0])


class Major(FileCase):
    def test_bounds(self):
        for major in (45, 46, 64, 65):
            m = Maker()
            m.major = major
            self.keeps(m)
        for major in (0, 44, 66, 0x2D00, 65535):
            m = Maker()
            m.major = major
            self.breaks(m, 3, "major")

    def test_minor_is_free(self):
        for minor in (0, 1, 65535):
            m = Maker()
            m.minor = minor
            self.keeps(m)

    def test_before_count_is_read(self):
        m = Maker()
        m.major = 44
        m.size = 0
        self.breaks(m, 3, "major")
        self.breaks_cut(m, ("count",), 3, "major")


class Count(FileCase):
    def test_none(self):
        m = Maker()
        m.size = 0
        self.breaks(m, 4, "count")
        self.breaks_cut(m, ("constant", 1), 4, "count")

    def test_one_is_no_constant(self):
        m = Maker()
        m.constants = []
        m.size = 1
        m.this = 0
        self.breaks(m, 8, "this")

    def test_more_than_there_are(self):
        m = Maker()
        m.size = m.numbers + 1
        self.breaks(m, 5, "flags")


class Tags(FileCase):
    def test_every_other_tag(self):
        for tag in range(256):
            if tag not in TAGS:
                m = Maker()
                n = m.constant(tag)
                self.breaks(m, 5, "constant", n)
                self.breaks_cut(m, ("flags",), 5, "constant", n)

    def test_before_what_earlier_constants_name(self):
        m = Maker()
        m.one(7, 0)
        n = m.constant(2)
        self.breaks(m, 5, "constant", n)


class Characters(FileCase):
    def test_characters(self):
        for row in CHARACTERS:
            m = Maker()
            m.raw_text(row)
            with self.subTest(row=row):
                self.keeps(m)

    def test_others(self):
        for row in NO_CHARACTERS:
            m = Maker()
            n = m.raw_text(row)
            m.text("behind")
            with self.subTest(row=row):
                self.breaks(m, 6, "constant", n)

    def test_every_first_byte_alone(self):
        for byte in range(256):
            m = Maker()
            n = m.raw_text([byte])
            if 1 <= byte <= 127:
                self.keeps(m)
            else:
                self.breaks(m, 6, "constant", n)

    def test_rows_of_two_and_three_bytes(self):
        firsts = (0x41, 0x7F, 0x80, 0xBF, 0xC0, 0xC1, 0xC2, 0xDF, 0xE0, 0xE1, 0xED, 0xEF, 0xF0, 0xFF)
        edges = (0x00, 0x01, 0x7F, 0x80, 0x81, 0x9F, 0xA0, 0xBF, 0xC0, 0xC2, 0xE0, 0xFF)
        rows = [[a, b] for a in range(256) for b in range(256)]
        rows += [[a, b, c] for a in firsts for b in range(256) for c in edges]
        for row in rows:
            self.assertEqual(is_character_row(row), ALL_CHARACTERS.fullmatch(bytes(row)) is not None, row)

    def test_before_the_next_constant(self):
        m = Maker()
        n = m.raw_text([0])
        m.constant(2)
        self.breaks(m, 6, "constant", n)
        self.breaks_cut(m, ("constant", n + 1), 6, "constant", n)

    def test_before_what_earlier_constants_name(self):
        m = Maker()
        m.one(8, 0)
        n = m.raw_text([0])
        self.breaks(m, 6, "constant", n)


class TwoNumbers(FileCase):
    def test_the_second_number_is_the_last_one(self):
        for tag in (5, 6):
            m = Maker()
            m.constant(tag, (1, 8))
            self.keeps(m)

    def test_the_second_number_is_not_below_count(self):
        for tag in (5, 6):
            m = Maker()
            n = m.constant(tag, (1, 8))
            m.size = n + 1
            self.breaks(m, 7, "constant", n)
            self.breaks_cut(m, ("flags",), 7, "constant", n)

    def test_its_eight_bytes_are_read_before(self):
        for tag in (5, 6):
            m = Maker()
            n = m.constant(tag, (1, 8))
            m.size = n + 1
            content = m.build().content
            start = m.build().places["constant", n, 0]
            self.assertEqual(self.told(content[:start + 7]), [2, 1, start])

    def test_before_what_earlier_constants_name(self):
        m = Maker()
        m.one(8, 0)
        n = m.long()
        m.size = n + 1
        self.breaks(m, 7, "constant", n)


class HowLong(FileCase):
    def filled(self, size):
        m = Maker()
        m.attributes = [m.attribute("X", [])]
        m.attributes = [m.attribute("X", [0] * (size - len(m.build().content)))]
        return m.build().content

    def test_4096_bytes(self):
        content = self.filled(4096)
        self.assertEqual(len(content), 4096)
        self.assertEqual(self.told(content), [1, 0])
        self.assertEqual(self.told([0] * 4096), [2, 2, 0])

    def test_more(self):
        self.assertEqual(self.told(self.filled(4097)), [1, -2])
        self.assertEqual(self.told([0] * 4097), [1, -2])
        self.assertEqual(self.told([255] * 6000), [1, -2])

    def test_more_whatever_is_held(self):
        content = self.filled(4096)
        calls = [1, 4096] + content + [1, 4097] + content + [0] + [2, 4097] + content + [0] + [4, 3]
        self.assertEqual(answers(calls), [1, 0, 1, -2, 1, -2, 1, 1])


if __name__ == "__main__":
    unittest.main()
