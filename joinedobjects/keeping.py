"""Which sections are kept, and the relocations that count for it.

A section is told by the pair of its part's number and its own number there; so is a relocation.
"""

from joinedobjects.naming import symbol_at
from joinedobjects.part import NUMBER, WEAK


def marked_sections(parts):
    found = []
    for part_number, part in enumerate(parts):
        for number, section in enumerate(part.sections):
            if section.marked:
                found.append((part_number, number))
    return found


# The section that a target lies in, in a list; nothing and a number lie in none.
def sections_of(parts, target):
    if target is None:
        return []
    section = symbol_at(parts, target).section
    if section == NUMBER:
        return []
    return [(target[0], section)]


# For each section with relocations, the sections that these lead to.
def leads(parts, targets):
    found = {}
    for part_number, part in enumerate(parts):
        for relocation in part.relocations:
            led = found.setdefault((part_number, relocation.section), [])
            led.extend(sections_of(parts, targets[part_number][relocation.symbol]))
    return found


def kept_sections(parts, targets, root_symbol):
    led_from = leads(parts, targets)
    pending = marked_sections(parts) + sections_of(parts, root_symbol)
    kept = {}
    while len(pending) > 0:
        section = pending.pop()
        if section not in kept:
            kept[section] = True
            pending.extend(led_from.get(section, []))
    return kept


def kept_relocations(parts, kept):
    found = []
    for part_number, part in enumerate(parts):
        for number, relocation in enumerate(part.relocations):
            if (part_number, relocation.section) in kept:
                found.append((part_number, number))
    return found


# The first of these relocations whose symbol stands for nothing and is not weak, or None.
def first_unbound(parts, targets, relocations):
    for pair in relocations:
        part = parts[pair[0]]
        symbol = part.relocations[pair[1]].symbol
        if targets[pair[0]][symbol] is None and part.symbols[symbol].binding != WEAK:
            return pair
    return None
