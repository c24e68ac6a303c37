"""Joins objects into one image."""

from joinedobjects.image import image_bytes, lay_out, put_values, target_address
from joinedobjects.keeping import first_unbound, kept_relocations, kept_sections
from joinedobjects.naming import first_given_again, name_symbols, stand_for
from joinedobjects.reader import NoObject, read_object

JOINED = 0
NO_OBJECT = -1
GIVEN_TWICE = -2
NO_ROOT = -3
UNBOUND = -4
TOO_FAR = -5
NO_ROOM = -6
BEYOND_LIMITS = -7

MOST_OBJECTS = 32
LONGEST_ROOT = 8192
MOST_ROOM = 268435456
BASE_STEP = 4096
BASE_END = 140737488355328


def beyond_limits(base, room, root, objects):
    if len(objects) < 1 or len(objects) > MOST_OBJECTS:
        return True
    if len(root) > LONGEST_ROOT or room > MOST_ROOM:
        return True
    return base % BASE_STEP != 0 or base >= BASE_END


def join(base, room, root, objects):
    if beyond_limits(base, room, root, objects):
        return [BEYOND_LIMITS]
    parts = []
    for number, data in enumerate(objects):
        try:
            parts.append(read_object(data))
        except NoObject:
            return [NO_OBJECT, number, 0]
    again = first_given_again(parts)
    if again is not None:
        return [GIVEN_TWICE, again[0], again[1]]
    found = name_symbols(parts)
    root_symbol = found.get(tuple(root))
    if root_symbol is None:
        return [NO_ROOT]
    return join_parts(base, room, root_symbol, parts, stand_for(parts, found))


def join_parts(base, room, root_symbol, parts, targets):
    kept = kept_sections(parts, targets, root_symbol)
    relocations = kept_relocations(parts, kept)
    unbound = first_unbound(parts, targets, relocations)
    if unbound is not None:
        return [UNBOUND, unbound[0], unbound[1]]
    layout = lay_out(parts, kept, base)
    values = put_values(parts, targets, layout, relocations)
    if None in values:
        far = relocations[values.index(None)]
        return [TOO_FAR, far[0], far[1]]
    image_size = layout.image_end - base
    if image_size > room:
        return [NO_ROOM]
    told = [JOINED, image_size, layout.whole_end - base, target_address(parts, layout, root_symbol)]
    return told + image_bytes(parts, layout, relocations, values)
