"""What an object holds once its bytes are read: a part of the program that is joined."""

CODE = 0
CONSTANTS = 1
DATA = 2
ZEROS = 3

OWN = 0
FOR_ALL = 1
WEAK = 2

NO_PLACE = 65535
NUMBER = 65534

WIDE = 0
NEAR = 1
LOW = 2
SHORT = 3

# How many bytes a relocation of each kind puts.
WIDTHS = (8, 4, 4, 1)


class Section:
    def __init__(self, kind, alignment, marked, size):
        self.kind = kind
        self.alignment = alignment
        self.marked = marked
        self.size = size


class Symbol:
    # section may also be NO_PLACE or NUMBER; value is then 0, or the number itself.
    def __init__(self, name, binding, section, value):
        self.name = name
        self.binding = binding
        self.section = section
        self.value = value


class Relocation:
    def __init__(self, section, symbol, offset, kind, addend):
        self.section = section
        self.symbol = symbol
        self.offset = offset
        self.kind = kind
        self.addend = addend


class Part:
    # contents has a list for each section, so that numbers fit both; that of a section of zeros is empty.
    def __init__(self, sections, contents, symbols, relocations):
        self.sections = sections
        self.contents = contents
        self.symbols = symbols
        self.relocations = relocations
