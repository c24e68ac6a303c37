"""Reads the bytes of an object, and refuses those that are none."""

from joinedobjects.part import NO_PLACE, NUMBER, OWN, Part, Relocation, SHORT, Section, Symbol, WEAK, WIDTHS, ZEROS

# The letters LNO1.
LETTERS = (76, 78, 79, 49)
HEAD_SIZE = 12
SECTION_SIZE = 8
SYMBOL_SIZE = 12
RELOCATION_SIZE = 16
MOST_SECTIONS = 64
MOST_SYMBOLS = 256
MOST_RELOCATIONS = 1024
MOST_NAME_BYTES = 8192
MOST_POWER = 12
LARGEST_SECTION = 65536
ALIGNMENTS = (1, 2, 4, 8, 16, 32, 64, 128, 256, 512, 1024, 2048, 4096)


class NoObject(Exception):
    pass


def demand(holds, rule):
    if not holds:
        raise NoObject(rule)


def lowest_first(row):
    total = 0
    for byte in reversed(row):
        total = total * 256 + byte
    return total


def with_sign(row):
    total = lowest_first(row)
    if total >= 2147483648:
        return total - 4294967296
    return total


def rows_of(data, at, count, size):
    return [data[at + size * k:at + size * (k + 1)] for k in range(count)]


def stored_size(section):
    if section.kind == ZEROS:
        return 0
    return section.size


def read_counts(data):
    demand(len(data) >= HEAD_SIZE, "the head is whole")
    demand(tuple(data[0:4]) == LETTERS, "the head begins with its letters")
    counts = [lowest_first(row) for row in rows_of(data, 4, 4, 2)]
    demand(counts[0] <= MOST_SECTIONS, "there are not too many sections")
    demand(counts[1] <= MOST_SYMBOLS, "there are not too many symbols")
    demand(counts[2] <= MOST_RELOCATIONS, "there are not too many relocations")
    demand(counts[3] <= MOST_NAME_BYTES, "there are not too many bytes of names")
    return counts


def read_section(row):
    power = row[1]
    marked = lowest_first(row[2:4])
    size = lowest_first(row[4:8])
    demand(row[0] <= ZEROS, "a section is of a known kind")
    demand(power <= MOST_POWER, "a section's alignment is not too large")
    demand(marked <= 1, "a section is marked by 1 or 0")
    demand(size <= LARGEST_SECTION, "a section is not too large")
    return Section(row[0], ALIGNMENTS[power], marked == 1, size)


def read_contents(data, at, sections):
    contents = []
    for section in sections:
        end = at + stored_size(section)
        contents.append(data[at:end])
        at = end
    return contents


def read_name(names, begin):
    rest = names[begin:]
    demand(0 in rest, "a name ends before a zero byte")
    return tuple(rest[:rest.index(0)])


def check_place(binding, section, value, sections):
    if section == NO_PLACE:
        demand(binding != OWN, "an object's own symbol has a place")
        demand(value == 0, "a symbol without a place has 0 there")
    elif section != NUMBER:
        demand(section < len(sections), "a symbol's section is there")
        demand(value <= sections[section].size, "a symbol lies in its section")


def read_symbol(row, sections, names):
    name = read_name(names, lowest_first(row[0:2]))
    binding = row[2]
    section = lowest_first(row[4:6])
    value = lowest_first(row[8:12])
    demand(binding <= WEAK, "a symbol's binding is a known one")
    demand(row[3] == 0 and lowest_first(row[6:8]) == 0, "a symbol's unused bytes are 0")
    demand(binding == OWN or len(name) > 0, "a name for all is not empty")
    check_place(binding, section, value, sections)
    return Symbol(name, binding, section, value)


def read_relocation(row, sections, symbol_count):
    section = lowest_first(row[0:2])
    symbol = lowest_first(row[2:4])
    offset = lowest_first(row[4:8])
    kind = row[8]
    demand(section < len(sections), "a relocation's section is there")
    demand(sections[section].kind != ZEROS, "a relocation's section is not of zeros")
    demand(symbol < symbol_count, "a relocation's symbol is there")
    demand(kind <= SHORT, "a relocation is of a known kind")
    demand(lowest_first(row[9:12]) == 0, "a relocation's unused bytes are 0")
    demand(offset + WIDTHS[kind] <= sections[section].size, "a relocation's bytes lie in its section")
    return Relocation(section, symbol, offset, kind, with_sign(row[12:16]))


def read_object(data):
    counts = read_counts(data)
    symbols_at = HEAD_SIZE + SECTION_SIZE * counts[0]
    relocations_at = symbols_at + SYMBOL_SIZE * counts[1]
    names_at = relocations_at + RELOCATION_SIZE * counts[2]
    contents_at = names_at + counts[3]
    demand(len(data) >= contents_at, "the tables are whole")
    sections = [read_section(row) for row in rows_of(data, HEAD_SIZE, counts[0], SECTION_SIZE)]
    stored = sum([stored_size(section) for section in sections])
    demand(len(data) == contents_at + stored, "there are just the bytes that were told")
    names = data[names_at:contents_at]
    symbols = [read_symbol(row, sections, names) for row in rows_of(data, symbols_at, counts[1], SYMBOL_SIZE)]
    relocation_rows = rows_of(data, relocations_at, counts[2], RELOCATION_SIZE)
    relocations = [read_relocation(row, sections, counts[1]) for row in relocation_rows]
    return Part(sections, read_contents(data, contents_at, sections), symbols, relocations)
