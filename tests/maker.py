"""Makes class files for the tests, sound ones and broken ones, and knows the place of everything in them."""

import unittest

from classfiles.desk import answers


class Piece:
    """Bytes with the places of what stands in them, by name, and where each item begins."""

    def __init__(self):
        self.content = []
        self.places = {}
        self.items = []

    def number(self, value, width, *name):
        self.row(list(value.to_bytes(width, "big")), *name)

    def row(self, row, *name):
        self.places[name] = len(self.content)
        self.items.append(len(self.content))
        self.content.extend(row)

    def put(self, piece, *name):
        """Puts a piece in as one item; what stands in it has this name before its own."""
        start = len(self.content)
        self.row(piece.content, *name)
        for inner, place in piece.places.items():
            self.places[name + inner] = start + place


def row_of(word):
    return list(word) if isinstance(word, (bytes, list)) else list(word.encode("utf-8"))


class Maker:
    """A sound little class, A under java/lang/Object, to be changed by the tests before it is made."""

    def __init__(self):
        self.magic = 0xCAFEBABE
        self.minor = 0
        self.major = 52
        self.size = None
        self.constants = []
        self.numbers = 1
        self.known = {}
        self.flags = 0x21
        self.this = self.named_class("A")
        self.parent = self.named_class("java/lang/Object")
        self.interfaces = []
        self.fields = []
        self.methods = []
        self.attributes = []
        self.tail = []

    def constant(self, tag, *parts):
        """Adds a constant; a part is a value with its width, or a row. Answers its number."""
        number = self.numbers
        self.constants.append((number, tag, parts))
        self.numbers += 2 if tag in (5, 6) else 1
        return number

    def raw_text(self, word):
        row = row_of(word)
        return self.constant(1, (len(row), 2), row)

    def text(self, word):
        """The text's number: the same one for the same word."""
        if word not in self.known:
            self.known[word] = self.raw_text(word)
        return self.known[word]

    def one(self, tag, number):
        return self.constant(tag, (number, 2))

    def two(self, tag, first, second):
        return self.constant(tag, (first, 2), (second, 2))

    def integer(self, value=7):
        return self.constant(3, (value, 4))

    def long(self, value=7):
        return self.constant(5, (value, 8))

    def handle(self, kind, number):
        return self.constant(15, (kind, 1), (number, 2))

    def named_class(self, word):
        return self.one(7, self.text(word))

    def named(self, name, sort):
        return self.two(12, self.text(name), self.text(sort))

    def member_constant(self, tag, name, sort):
        return self.two(tag, self.this, self.named(name, sort))

    def field(self, flags, name, sort, *attributes):
        """Adds a field; name and sort are words, or numbers as they are to stand."""
        self.fields.append((flags, self.number_of(name), self.number_of(sort), attributes))

    def method(self, flags, name, sort, *attributes):
        self.methods.append((flags, self.number_of(name), self.number_of(sort), attributes))

    def number_of(self, word):
        return word if isinstance(word, int) else self.text(word)

    def attribute(self, name, row=(), size=None):
        return (self.number_of(name), row, size)

    def value(self, number):
        return self.attribute("ConstantValue", list(number.to_bytes(2, "big")))

    def code(self, size=None, cut=None, **parts):
        """An attribute Code with its inside, cut off where told."""
        piece = code_piece(**parts)
        if cut is not None:
            piece.content = piece.content[:cut]
        return self.attribute("Code", piece, size)

    def build(self):
        piece = Piece()
        piece.number(self.magic, 4, "magic")
        piece.number(self.minor, 2, "minor")
        piece.number(self.major, 2, "major")
        piece.number(self.numbers if self.size is None else self.size, 2, "count")
        for number, tag, parts in self.constants:
            put_constant(piece, number, tag, parts)
        piece.number(self.flags, 2, "flags")
        piece.number(self.this, 2, "this")
        piece.number(self.parent, 2, "super")
        piece.number(len(self.interfaces), 2, "interfaces")
        for k, number in enumerate(self.interfaces):
            piece.number(number, 2, "interface", k)
        for word, members in (("field", self.fields), ("method", self.methods)):
            piece.number(len(members), 2, word + "s")
            for k, member in enumerate(members):
                put_member(piece, member, word, k)
        put_attributes(piece, self.attributes, "file")
        piece.row(self.tail, "tail")
        return piece


def put_constant(piece, number, tag, parts):
    piece.number(tag, 1, "constant", number)
    for k, part in enumerate(parts):
        if isinstance(part, tuple):
            piece.number(part[0], part[1], "constant", number, k)
        else:
            piece.row(part, "constant", number, "bytes")


def put_member(piece, member, *name):
    piece.number(member[0], 2, *name)
    piece.number(member[1], 2, *name, "name")
    piece.number(member[2], 2, *name, "sort")
    put_attributes(piece, member[3], *name)


def put_attributes(piece, attributes, *name):
    piece.number(len(attributes), 2, *name, "attributes")
    for k, (number, row, size) in enumerate(attributes):
        put_attribute(piece, number, row, size, *name, "attribute", k)


def put_attribute(piece, number, row, size, *name):
    inner = row
    if not isinstance(row, Piece):
        inner = Piece()
        inner.content = list(row)
    piece.number(number, 2, *name)
    piece.number(len(inner.content) if size is None else size, 4, *name, "length")
    piece.put(inner, *name, "bytes")


def code_piece(stack=2, variables=3, length=None, row=(0xB1,), handlers=(), attributes=()):
    piece = Piece()
    piece.number(stack, 2, "stack")
    piece.number(variables, 2, "variables")
    piece.number(len(row) if length is None else length, 4, "length")
    piece.row(list(row), "code")
    piece.number(len(handlers), 2, "handlers")
    for k, handler in enumerate(handlers):
        for part, value in zip(("from", "to", "target", "class"), handler):
            piece.number(value, 2, "handler", k, part)
    put_attributes(piece, attributes)
    return piece


# The place of the bytes of method 0's first attribute, which is Code in most tests.
CODE = ("method", 0, "attribute", 0, "bytes")


def full_maker():
    """A file with every tag, interfaces, fields, methods, handlers, and attributes at each level."""
    m = Maker()
    m.minor = 3
    m.interfaces = [m.named_class("I"), m.named_class("p/J")]
    whole = m.integer(0xFFFFFFFF)
    single = m.constant(4, (0x7FC00000, 4))
    wide = m.long(0x8000000000000001)
    double = m.constant(6, (0xFFF0000000000000, 8))
    string = m.one(8, m.raw_text([0xC0, 0x80, 0xED, 0xA0, 0x80]))
    field = m.member_constant(9, "x", "I")
    method = m.member_constant(10, "<init>", "()V")
    face = m.two(11, m.interfaces[0], m.named("run", "(JD)V"))
    for kind, number in ((1, field), (4, field), (5, method), (6, face), (8, method), (9, face)):
        m.handle(kind, number)
    m.one(16, m.text("([[I)La/b;"))
    m.two(18, 65535, m.named("get", "()LI;"))
    m.named_class("[[La/b;")
    for sort, number in (("J", wide), ("F", single), ("D", double), ("Ljava/lang/String;", string)):
        m.field(0x19, "c", sort, m.attribute("Deprecated"), m.value(number))
    for sort in "BCISZ":
        m.field(0x1A, "c", sort, m.value(whole))
    m.field(0x42, "x", "[I", m.attribute("Deprecated"), m.attribute("Other", [1, 2, 3]))
    inner = (m.attribute("LineNumberTable", [0, 0]), m.attribute("Code", []))
    code = m.code(row=[0, 0, 0xB1], handlers=[(0, 3, 2, m.this), (0, 1, 0, 0)], attributes=inner)
    m.method(1, "<init>", "()V", m.attribute("Synthetic"), code, m.attribute("Other", [9]))
    m.method(8, "<clinit>", "()V", m.code())
    m.method(0x401, "run", "(JD)V", m.attribute("Signature", [0, 1]))
    m.method(0x93A, "run", "()V")
    m.flags = 0x421
    m.attributes = [m.attribute("SourceFile", [0, 1]), m.attribute("Code", [7]), m.attribute("ConstantValue")]
    return m


class FileCase(unittest.TestCase):
    def told(self, content):
        """What is answered of the bytes; read and judge must answer the same."""
        read = answers([1, len(content)] + content)
        self.assertEqual(answers([2, len(content)] + content), read)
        return read

    def keeps(self, maker):
        self.assertEqual(self.told(maker.build().content), [1, 0])

    def breaks(self, maker, rule, *name, behind=0):
        """The file breaks this rule at the place with this name, or so many bytes behind that."""
        piece = maker.build()
        self.assertEqual(self.told(piece.content), [2, rule, piece.places[name] + behind])

    def breaks_cut(self, maker, cut, rule, *name):
        """The same of the file without what stands from the cut's name on."""
        piece = maker.build()
        content = piece.content[:piece.places[cut]]
        self.assertEqual(self.told(content), [2, rule, piece.places[name]])
