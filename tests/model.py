"""The calls 3 to 16 once more, written from the document another way: over a file that keeps all rules."""

import re
import struct

SHAPES = {3: ">I", 4: ">I", 5: ">Q", 6: ">Q", 7: ">H", 8: ">H", 9: ">HH", 10: ">HH", 11: ">HH", 12: ">HH",
          15: ">BH", 16: ">H", 18: ">HH"}


class Model:
    def __init__(self, content):
        self.raw = bytes(content)
        self.at = 4
        self.minor, self.major, self.size = self.take(">HHH")
        self.pool = {}
        number = 1
        while number < self.size:
            number += self.take_constant(number)
        self.flags, self.this, self.parent, faces = self.take(">HHHH")
        self.faces = [self.take(">H")[0] for k in range(faces)]
        self.members = {1: self.take_members(), 2: self.take_members()}
        self.attributes = self.take_attributes()
        if self.at != len(self.raw):
            raise AssertionError(self.at)

    def take(self, shape):
        values = struct.unpack_from(shape, self.raw, self.at)
        self.at += struct.calcsize(shape)
        return values

    def take_constant(self, number):
        """The pool holds (tag, numbers); of a text these are where it stands and how long it is."""
        tag, = self.take(">B")
        if tag == 1:
            length, = self.take(">H")
            self.pool[number] = (tag, (self.at, length))
            self.at += length
        else:
            self.pool[number] = (tag, self.take(SHAPES[tag]))
        return 2 if tag in (5, 6) else 1

    def take_members(self):
        members = []
        for k in range(self.take(">H")[0]):
            head = self.take(">HHH")
            members.append((head, self.take_attributes()))
        return members

    def take_attributes(self):
        attributes = []
        for k in range(self.take(">H")[0]):
            name, length = self.take(">HI")
            attributes.append((name, self.at, length))
            self.at += length
        return attributes

    def word(self, number):
        tag, (start, length) = self.pool[number]
        return self.raw[start:start + length]

    def code(self, k):
        """The inside of method k's Code: stack, locals, where, how long; and its attributes."""
        for name, start, length in self.members[2][k][1]:
            if self.word(name) == b"Code":
                self.at = start
                stack, variables, size = self.take(">HHI")
                where = self.at
                self.at += size
                handlers, = self.take(">H")
                self.at += 8 * handlers
                return (stack, variables, where, size), self.take_attributes()
        raise KeyError(k)

    def answer(self, call, *parts):
        """The answer as a list; -1 if anything on the way to it isn't there."""
        try:
            return list(getattr(self, f"call_{call}")(*parts))
        except LookupError:
            return [-1]

    def call_3(self):
        return 0, self.minor, self.major, self.flags, self.this, self.parent, self.size

    def call_4(self, what):
        return [{0: len(self.faces), 1: len(self.members[1]), 2: len(self.members[2]), 3: len(self.attributes)}[what]]

    def call_5(self, k):
        return [self.faces[k]]

    def call_6(self, i):
        return [self.pool[i][0]]

    def only(self, i, *tags):
        if self.pool[i][0] not in tags:
            raise KeyError(i)
        return self.pool[i][1]

    def call_7(self, i):
        return (0,) + self.only(i, 1)

    def call_8(self, i):
        return (0,) + self.only(i, 3, 4, 5, 6)

    def call_9(self, i):
        return ((0,) + self.only(i, 7, 8, 9, 10, 11, 12, 15, 16, 18) + (0,))[:3]

    def call_10(self, what, k):
        head, attributes = self.members[what][k]
        return (0,) + head + (len(attributes),)

    def call_11(self, what, k, j):
        if what == 3:
            attributes = self.attributes
        elif what == 4:
            attributes = self.code(k)[1]
        else:
            attributes = self.members[what][k][1]
        return (0,) + attributes[j]

    def call_12(self, k):
        return (0,) + self.code(k)[0]

    def call_13(self, what, name, sort):
        wanted = (bytes(name), bytes(sort))
        found = [k for k, (head, inner) in enumerate(self.members[what])
                 if (self.word(head[1]), self.word(head[2])) == wanted]
        return found[0:1] or [-1]

    def call_14(self, k):
        sort = self.word(self.members[2][k][0][2])
        # ISO 8859-1 keeps each byte a sign of its own; a class's name in a type may hold a bracket.
        inside = re.match(r"\(((?:\[*(?:[BCDFIJSZ]|L[^;]*;))*)\)", sort.decode("latin-1")).group(1)
        parts = re.findall(r"\[*(?:[BCDFIJSZ]|L[^;]*;)", inside)
        return [sum(2 if part in ("J", "D") else 1 for part in parts)]

    def call_15(self, i):
        self.pool[i]
        named = {number: parts[1:] if tag in (15, 18) else parts
                 for number, (tag, parts) in self.pool.items() if tag not in (1, 3, 4, 5, 6)}
        users = sorted(number for number, parts in named.items() if i in parts)
        return [len(users)] + users

    def told(self, i):
        tag, parts = self.pool[i]
        if tag == 1:
            return self.word(i)
        if tag in (7, 8, 16):
            return self.told(parts[0])
        if tag == 12:
            return self.told(parts[0]) + b":" + self.told(parts[1])
        if tag == 18:
            return self.told(parts[1])
        if tag in (9, 10, 11):
            return self.told(parts[0]) + b"." + self.told(parts[1])
        raise KeyError(i)

    def call_16(self, i):
        row = self.told(i)
        return [len(row)] + list(row)
