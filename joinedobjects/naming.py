"""Who gives a name, and what each symbol stands for.

A symbol is told by the pair of its part's number and its own number there.
"""

from joinedobjects.part import FOR_ALL, NO_PLACE, OWN, WEAK


# The pairs of the symbols that give their name with this binding, in their order.
def givers(parts, binding):
    found = []
    for part_number, part in enumerate(parts):
        for number, symbol in enumerate(part.symbols):
            if symbol.binding == binding and symbol.section != NO_PLACE:
                found.append((part_number, number))
    return found


def symbol_at(parts, pair):
    return parts[pair[0]].symbols[pair[1]]


def first_given_again(parts):
    given = {}
    for pair in givers(parts, FOR_ALL):
        name = symbol_at(parts, pair).name
        if name in given:
            return pair
        given[name] = True
    return None


# Each name that is given, with its name's symbol.
def name_symbols(parts):
    found = {}
    # The weak come last, as they count only where none that is bound for all gives the name.
    for pair in givers(parts, FOR_ALL) + givers(parts, WEAK):
        found.setdefault(symbol_at(parts, pair).name, pair)
    return found


# For each part, for each of its symbols, the symbol that it stands for, or None for nothing.
def stand_for(parts, found):
    targets = []
    for part_number, part in enumerate(parts):
        row = []
        for number, symbol in enumerate(part.symbols):
            if symbol.binding == OWN:
                row.append((part_number, number))
            else:
                row.append(found.get(symbol.name))
        targets.append(row)
    return targets
