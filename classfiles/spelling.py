"""How texts, names and descriptors are spelled, all as rows of bytes.

A descriptor is what tells a field's or a method's kind, such as I or (J)V.
"""

MOST_DIMENSIONS = 255
MOST_SLOTS = 255
# The field's descriptors of one sign, B C D F I J S Z, and the slots that each takes.
BASIC_SLOTS = {66: 1, 67: 1, 68: 2, 70: 1, 73: 1, 74: 2, 83: 1, 90: 1}


def row_of(word):
    """Answers the bytes of a word of plain signs."""
    return [ord(sign) for sign in word]


def has_sign(row, signs):
    """Tells whether any of the signs stands in the row."""
    return any([ord(sign) in row for sign in signs])


def is_character_row(row):
    """Tells whether the row is characters from its beginning to its end."""
    at = 0
    while at < len(row):
        width = character_width(row, at)
        if width == 0:
            return False
        at += width
    return True


def character_width(row, at):
    """Answers how many bytes the character at this place has, 0 if none stands there."""
    first = row[at]
    if 1 <= first <= 0x7F:
        return 1
    if 0xC0 <= first <= 0xDF and are_tail_bytes(row, at + 1, at + 2):
        value = first % 32 * 64 + row[at + 1] % 64
        return 2 if value == 0 or value >= 128 else 0
    if 0xE0 <= first <= 0xEF and are_tail_bytes(row, at + 1, at + 3):
        value = first % 16 * 4096 + row[at + 1] % 64 * 64 + row[at + 2] % 64
        return 3 if value >= 2048 else 0
    return 0


def are_tail_bytes(row, start, end):
    """Tells whether bytes 80H to BFH stand from start up to end, all of them."""
    return end <= len(row) and all([0x80 <= byte <= 0xBF for byte in row[start:end]])


def is_simple_name(row):
    """Tells whether the row may be a field's name."""
    return len(row) > 0 and not has_sign(row, ".;[/")


def is_init(row):
    """Tells whether the row is the name of what makes an object."""
    return row == row_of("<init>")


def is_plain_method_name(row):
    """Tells whether the row is a method's name without < and >."""
    return is_simple_name(row) and not has_sign(row, "<>")


def is_method_name(row):
    """Tells whether the row may be a method's name."""
    return is_plain_method_name(row) or is_init(row) or row == row_of("<clinit>")


def is_class_name(row):
    """Tells whether the row is simple names with / between."""
    before = ord("/")
    for byte in row:
        if byte == ord("/") and before == ord("/"):
            return False
        before = byte
    return before != ord("/") and not has_sign(row, ".;[")


def is_array(row):
    """Tells whether the row, a class's text or a descriptor, stands for an array."""
    return row[:1] == row_of("[")


def field_end(row, start):
    """Answers the place behind the field's descriptor that begins at start, None if none does."""
    at = start
    while at < len(row) and row[at] == ord("["):
        at += 1
    if at - start > MOST_DIMENSIONS or at == len(row):
        return None
    if row[at] == ord("L"):
        return class_end(row, at + 1)
    return at + 1 if row[at] in BASIC_SLOTS else None


def class_end(row, start):
    """Answers the place behind the ; that ends the class's name begun at start, None if it isn't one."""
    at = start
    while at < len(row) and row[at] != ord(";"):
        at += 1
    if at == len(row) or not is_class_name(row[start:at]):
        return None
    return at + 1


def is_field_descriptor(row):
    """Tells whether the row is a field's descriptor, and nothing behind it."""
    return field_end(row, 0) == len(row)


def argument_slots(row):
    """Answers how many slots the arguments of a method's descriptor take, None if the row isn't one."""
    if row[:1] != row_of("("):
        return None
    slots = 0
    at = 1
    while at < len(row) and row[at] != ord(")"):
        slots += BASIC_SLOTS.get(row[at], 1)
        at = field_end(row, at)
        if at is None or slots > MOST_SLOTS:
            return None
    return slots if is_result(row[at + 1:]) else None


def is_result(row):
    """Tells whether the row is what may stand behind a method's arguments."""
    return row == row_of("V") or is_field_descriptor(row)


def is_method_descriptor(row):
    """Tells whether the row is a method's descriptor, and nothing behind it."""
    return argument_slots(row) is not None


def gives_nothing(row):
    """Tells whether a method's descriptor has the result V; no field's descriptor ends in that sign."""
    return row[-1:] == row_of("V")
