"""Where the kept sections stand, what the relocations put, and the image's bytes."""

from joinedobjects.naming import symbol_at
from joinedobjects.part import CODE, CONSTANTS, DATA, LOW, NEAR, NUMBER, SHORT, WIDE, WIDTHS, ZEROS

PAGE = 4096
ALL_ADDRESSES = 18446744073709551616
HALF_OF_THEM = 9223372036854775808


class Layout:
    # addresses has each kept section's, by its pair; the image and the whole are told by where they end.
    def __init__(self, base, addresses, image_end, whole_end):
        self.base = base
        self.addresses = addresses
        self.image_end = image_end
        self.whole_end = whole_end


def next_multiple(address, step):
    return (address + step - 1) // step * step


def kept_of_kind(parts, kept, kind):
    found = []
    for part_number, part in enumerate(parts):
        for number, section in enumerate(part.sections):
            if section.kind == kind and (part_number, number) in kept:
                found.append((part_number, number))
    return found


def lay_out(parts, kept, base):
    addresses = {}
    ends = {}
    at = base
    for kind in (CODE, CONSTANTS, DATA, ZEROS):
        # A kind without sections ends where it would begin, and takes no room, as base is a page's begin.
        at = next_multiple(at, PAGE)
        for pair in kept_of_kind(parts, kept, kind):
            section = parts[pair[0]].sections[pair[1]]
            at = next_multiple(at, section.alignment)
            addresses[pair] = at
            at = at + section.size
        ends[kind] = at
    return Layout(base, addresses, ends[DATA], ends[ZEROS])


def target_address(parts, layout, target):
    if target is None:
        return 0
    symbol = symbol_at(parts, target)
    if symbol.section == NUMBER:
        return symbol.value
    return layout.addresses[(target[0], symbol.section)] + symbol.value


def relocation_address(parts, layout, pair):
    relocation = parts[pair[0]].relocations[pair[1]]
    return layout.addresses[(pair[0], relocation.section)] + relocation.offset


def fits(kind, total):
    if kind == WIDE:
        return True
    if kind == LOW:
        return total < 4294967296
    signed = total
    if total >= HALF_OF_THEM:
        signed = total - ALL_ADDRESSES
    if kind == NEAR:
        return signed >= -2147483648 and signed <= 2147483647
    return signed >= -128 and signed <= 127


# What each of these relocations puts, or None where it is too far.
def put_values(parts, targets, layout, relocations):
    values = []
    for pair in relocations:
        relocation = parts[pair[0]].relocations[pair[1]]
        total = target_address(parts, layout, targets[pair[0]][relocation.symbol]) + relocation.addend
        if relocation.kind == NEAR or relocation.kind == SHORT:
            total = total - relocation_address(parts, layout, pair)
        total = total % ALL_ADDRESSES
        values.append(total if fits(relocation.kind, total) else None)
    return values


def lowest_bytes(value, width):
    found = []
    for k in range(width):
        found.append(value % 256)
        value = value // 256
    return found


def write_at(image, at, content):
    for k, byte in enumerate(content):
        image[at + k] = byte


def image_bytes(parts, layout, relocations, values):
    image = [0] * (layout.image_end - layout.base)
    for pair, address in layout.addresses.items():
        # The zeros stand behind the image, but have no content that would be written there.
        write_at(image, address - layout.base, parts[pair[0]].contents[pair[1]])
    for pair, value in zip(relocations, values):
        width = WIDTHS[parts[pair[0]].relocations[pair[1]].kind]
        address = relocation_address(parts, layout, pair)
        write_at(image, address - layout.base, lowest_bytes(value, width))
    return image
