"""Makes the bytes of objects for the tests, and changes them."""

CODE, CONSTANTS, DATA, ZEROS = 0, 1, 2, 3
OWN, FOR_ALL, WEAK = 0, 1, 2
NO_PLACE, NUMBER = 0xFFFF, 0xFFFE
WIDE, NEAR, LOW, SHORT = 0, 1, 2, 3

BASE = 0x400000
ROOM = 268435456


def low(value, width):
    return list((value % 256 ** width).to_bytes(width, "little"))


def section(kind, content=(), alignment=0, marked=0):
    """content: a section's bytes; of zeros, how many."""
    return kind, alignment, marked, content


def kept(kind, content=(), alignment=0):
    return section(kind, content, alignment, 1)


def symbol(name, binding, place, value=0):
    return name, binding, place, value


def asked(name, binding=FOR_ALL):
    """A symbol that has no place."""
    return symbol(name, binding, NO_PLACE)


def relocation(place, number, offset, kind, addend=0):
    return place, number, offset, kind, addend


def size_of(content):
    return content if isinstance(content, int) else len(content)


def make(sections=(), symbols=(), relocations=(), names=None):
    """The bytes of an object.

    A symbol's name is a text, whose bytes are added to the names with a zero byte, or a number: where it begins
    in the names that are told.
    """
    pool = list(names) if names is not None else []
    symbol_rows = []
    for name, binding, place, value in symbols:
        begin = name
        if isinstance(name, str):
            begin = len(pool)
            pool += list(name.encode()) + [0]
        symbol_rows += low(begin, 2) + [binding, 0] + low(place, 2) + [0, 0] + low(value, 4)
    data = list(b"LNO1")
    for count in (len(sections), len(symbols), len(relocations), len(pool)):
        data += low(count, 2)
    for kind, alignment, marked, content in sections:
        data += [kind, alignment] + low(marked, 2) + low(size_of(content), 4)
    data += symbol_rows
    for place, number, offset, kind, addend in relocations:
        data += low(place, 2) + low(number, 2) + low(offset, 4) + [kind, 0, 0, 0] + low(addend, 4)
    data += pool
    for kind, alignment, marked, content in sections:
        if not isinstance(content, int):
            data += list(content)
    return data


def count_at(data, at):
    return data[at] + 256 * data[at + 1]


def section_row(data, number):
    return 12 + 8 * number


def symbol_row(data, number):
    return section_row(data, count_at(data, 4)) + 12 * number


def relocation_row(data, number):
    return symbol_row(data, count_at(data, 6)) + 16 * number


def changed(data, at, *new):
    return data[:at] + list(new) + data[at + len(new):]


def name(text):
    return list(text.encode())
