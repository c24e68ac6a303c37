"""Many made-up programs, compared with a second, plainly slow reading of the document."""

import random
import struct
import unittest

from builder import NO_PLACE, NUMBER, ZEROS, make, name
from joinedobjects.joiner import join

WIDTHS = [8, 4, 4, 1]


def model_read(data):
    """The object's tables as plain tuples; ValueError, IndexError or struct.error if it is none."""
    raw = bytes(data)
    letters, *counts = struct.unpack_from("<4sHHHH", raw)
    if letters != b"LNO1" or any(count > most for count, most in zip(counts, (64, 256, 1024, 8192))):
        raise ValueError
    at = 12
    tables = []
    for count, form in zip(counts, ("<BBHI", "<HBBHHI", "<HHIBBHi")):
        tables.append([struct.unpack_from(form, raw, at + k * struct.calcsize(form)) for k in range(count)])
        at += count * struct.calcsize(form)
    pool = raw[at:at + counts[3]]
    at += counts[3]
    contents = []
    for kind, power, mark, size in tables[0]:
        if kind > 3 or power > 12 or mark > 1 or size > 65536:
            raise ValueError
        contents.append(raw[at:at + size] if kind < 3 else b"")
        at += size if kind < 3 else 0
    if at != len(raw):
        raise ValueError
    symbols = []
    for begin, binding, zero, place, zeros, value in tables[1]:
        text = pool[begin:pool.index(b"\0", begin)]
        limit = 0 if place == 0xFFFF else 0xFFFFFFFF if place == 0xFFFE else tables[0][place][3]
        if binding > 2 or zero or zeros or value > limit:
            raise ValueError
        if (binding == 0 and place == 0xFFFF) or (binding and not text):
            raise ValueError
        symbols.append((text, binding, place, value))
    relocations = []
    for place, number, offset, kind, zero, zeros, addend in tables[2]:
        if zero or zeros or number >= len(symbols) or tables[0][place][0] == 3:
            raise ValueError
        if offset + WIDTHS[kind] > tables[0][place][3]:
            raise ValueError
        relocations.append((place, number, offset, kind, addend))
    return tables[0], symbols, relocations, contents


def model_target(read, number, k):
    """What symbol k of an object stands for: its object's number and itself, or None."""
    text, binding, place, value = read[number][1][k]
    if binding == 0:
        return number, read[number][1][k]
    return model_named(read, text)


def model_named(read, text):
    for wanted in (1, 2):
        for other, (sections, symbols, relocations, contents) in enumerate(read):
            for candidate in symbols:
                if candidate[0] == text and candidate[1] == wanted and candidate[2] != 0xFFFF:
                    return other, candidate
    return None


def model_kept(read, root):
    kept = {(o, s) for o, one in enumerate(read) for s, row in enumerate(one[0]) if row[2]}
    if root[1][2] != 0xFFFE:
        kept.add((root[0], root[1][2]))
    while True:
        more = set()
        for o, one in enumerate(read):
            for place, number, *rest in one[2]:
                target = model_target(read, o, number)
                if (o, place) in kept and target is not None and target[1][2] != 0xFFFE:
                    more.add((target[0], target[1][2]))
        if more <= kept:
            return kept
        kept |= more


def model_places(read, kept, base):
    places = {}
    ends = []
    at = base
    for kind in range(4):
        while at % 4096:
            at += 1
        for o, one in enumerate(read):
            for s, (its_kind, power, mark, size) in enumerate(one[0]):
                if its_kind == kind and (o, s) in kept:
                    while at % 2 ** power:
                        at += 1
                    places[o, s] = at
                    at += size
        ends.append(at)
    return places, ends[2] - base, ends[3] - base


def model_address(places, target):
    if target is None:
        return 0
    return target[1][3] + (0 if target[1][2] == 0xFFFE else places[target[0], target[1][2]])


def model_put(kind, s, a, p):
    """The bytes that are put, or None."""
    difference = (s + a - p + 2 ** 63) % 2 ** 64 - 2 ** 63
    try:
        if kind == 0:
            return struct.pack("<Q", (s + a) % 2 ** 64)
        if kind == 1:
            return struct.pack("<i", difference)
        if kind == 2:
            return struct.pack("<I", (s + a) % 2 ** 64)
        return struct.pack("<b", difference)
    except struct.error:
        return None


def model_join(base, room, root, objects):
    if not 1 <= len(objects) <= 32 or len(root) > 8192 or room > 2 ** 28 or base % 4096 or base >= 2 ** 47:
        return [-7]
    read = []
    for o, data in enumerate(objects):
        try:
            read.append(model_read(data))
        except (ValueError, IndexError, struct.error):
            return [-1, o, 0]
    strong = [(o, k, row[0]) for o, one in enumerate(read) for k, row in enumerate(one[1]) if row[1] == 1 and row[2] != 0xFFFF]
    for place, (o, k, text) in enumerate(strong):
        if text in [earlier[2] for earlier in strong[:place]]:
            return [-2, o, k]
    target = model_named(read, bytes(root))
    if target is None:
        return [-3]
    kept = model_kept(read, target)
    live = [(o, k, row) for o, one in enumerate(read) for k, row in enumerate(one[2]) if (o, row[0]) in kept]
    for o, k, row in live:
        if model_target(read, o, row[1]) is None and read[o][1][row[1]][1] != 2:
            return [-4, o, k]
    places, image_size, whole_size = model_places(read, kept, base)
    image = bytearray(image_size)
    for (o, s), at in places.items():
        image[at - base:at - base + len(read[o][3][s])] = read[o][3][s]
    for o, k, (place, number, offset, kind, addend) in live:
        at = places[o, place] + offset
        new = model_put(kind, model_address(places, model_target(read, o, number)), addend, at)
        if new is None:
            return [-5, o, k]
        image[at - base:at - base + len(new)] = new
    if image_size > room:
        return [-6]
    return [0, image_size, whole_size, model_address(places, target)] + list(image)


def made_object(rng, texts):
    sections = []
    for k in range(rng.randrange(5)):
        kind = rng.randrange(4)
        size = rng.choice([0, 1, 4, 8, 9, 20, 40, rng.randrange(300)])
        content = size if kind == ZEROS else [rng.randrange(256) for j in range(size)]
        sections.append((kind, rng.choice([0, 0, 1, 2, 3, 4, 12]), int(rng.random() < 0.2), content))
    sizes = [row[3] if isinstance(row[3], int) else len(row[3]) for row in sections]
    symbols = []
    for k in range(rng.randrange(7)):
        binding = rng.choice([0, 0, 1, 2, 2])
        place = rng.choice([NUMBER] + list(range(len(sections))) * 2 + ([NO_PLACE] if binding else []))
        value = 0 if place == NO_PLACE else rng.choice([3, BASE_AROUND, rng.randrange(2 ** 32)])
        if place < len(sections):
            value = rng.choice([0, sizes[place], rng.randrange(sizes[place] + 1)])
        text = rng.choice(texts) if binding != 1 or place == NO_PLACE else rng.choice(texts) + rng.choice(["", "1", "2", "3"])
        symbols.append((text, binding, place, value))
    relocations = []
    for k in range(rng.randrange(6)):
        kind = rng.choice([0, 0, 0, 1, 1, 2, 2, 3])
        wide = [s for s, row in enumerate(sections) if row[0] != ZEROS and sizes[s] >= WIDTHS[kind]]
        if wide and symbols:
            place = rng.choice(wide)
            offset = rng.randrange(sizes[place] - WIDTHS[kind] + 1)
            addend = rng.choice([0, 1, -1, 7, -4, rng.randrange(-200, 200), 2 ** 31 - 1, -2 ** 31] if rng.random() < 0.3 else [0, 5, -4])
            relocations.append((place, rng.randrange(len(symbols)), offset, kind, addend))
    return make(sections, symbols, relocations)


BASE_AROUND = 0x10000


def made_call(rng):
    texts = rng.sample(["root", "a", "b", "c", "ab", "long_name"], 4) + ["root"]
    objects = [made_object(rng, texts) for k in range(rng.choice([1, 1, 2, 3, 4, 6]))]
    if rng.random() < 0.6:
        first = make([(0, 2, 0, [k for k in range(24)])], [("root", 1, 0, 4)] + [(text, 1, NO_PLACE, 0) for text in texts[:2]],
                     [(0, rng.randrange(3), 8 * k, 0, 0) for k in range(rng.randrange(3))])
        objects[rng.randrange(len(objects))] = first
    if rng.random() < 0.4:
        objects.append(make([], [(text, 2, NUMBER, BASE_AROUND + 9) for text in ["root", "a", "b", "c", "ab", "long_name"]]))
    if rng.random() < 0.15:
        spoiled = rng.randrange(len(objects))
        at = rng.randrange(len(objects[spoiled]))
        objects[spoiled][at] = rng.choice([0, 1, 2, 3, 4, 255, rng.randrange(256)])
    base = rng.choice([0, BASE_AROUND, BASE_AROUND, BASE_AROUND, 2 ** 32 - 4096, 2 ** 32, 2 ** 47 - 4096])
    room = rng.choice([2 ** 28] * 6 + [0, 4096, 10000])
    return base, room, name("root"), objects


class Model(unittest.TestCase):
    def test_made_up_programs(self):
        rng = random.Random(20261116)
        seen = {}
        for turn in range(4000):
            call = made_call(rng)
            answer = join(*call)
            seen[answer[0]] = seen.get(answer[0], 0) + 1
            if answer != model_join(*call):
                self.fail(f"turn {turn}: {call} answered {answer[:8]}, the model {model_join(*call)[:8]}")
        # Each answer has to come up often, or the comparison says little of it.
        for code in (0, -1, -2, -3, -4, -5, -6):
            self.assertGreater(seen.get(code, 0), 30, (code, seen))

    def test_every_byte_of_an_object_spoiled(self):
        data = make(
            [(0, 2, 1, [9] * 12), (3, 1, 0, 6), (2, 3, 0, [8] * 9)],
            [("root", 1, 0, 3), ("a", 2, 2, 9), ("own", 0, 1, 6), ("n", 1, NUMBER, 70000), ("w", 2, NO_PLACE, 0)],
            [(0, 1, 4, 0, -5), (0, 2, 0, 1, 8), (2, 3, 5, 2, 1), (2, 1, 0, 3, -2), (2, 4, 1, 0, 0)],
        )
        for at in range(len(data)):
            for other in (0, 1, 2, 3, 4, 7, 13, 64, 127, 128, 254, 255, data[at] + 1 & 255, data[at] - 1 & 255):
                spoiled = data[:at] + [other] + data[at + 1:]
                answer = join(0x10000, 2 ** 28, name("root"), [spoiled])
                self.assertEqual(answer, model_join(0x10000, 2 ** 28, name("root"), [spoiled]), (at, other))


if __name__ == "__main__":
    unittest.main()
