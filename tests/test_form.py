"""What is an object, and what is none: each sentence of "An object"."""

import unittest

from builder import (
    BASE, CODE, CONSTANTS, DATA, FOR_ALL, LOW, NEAR, NO_PLACE, NUMBER, OWN, ROOM, SHORT, WEAK, WIDE, ZEROS,
    asked, changed, kept, low, make, name, relocation, relocation_row, section, section_row, symbol, symbol_row,
)
from joinedobjects.joiner import join

NONE = [-1, 0, 0]


def whole_object():
    """One of everything; symbols: 0 root, 1 own, 2 asked weakly, 3 number, 4 in the zeros."""
    return make(
        [kept(CODE, range(16), 2), kept(ZEROS, 8), section(DATA, range(32, 40), 3), section(CONSTANTS, [1, 2, 3])],
        [
            symbol("root", FOR_ALL, 0, 4), symbol("", OWN, 2, 8), asked("maybe", WEAK),
            symbol("seven", FOR_ALL, NUMBER, 7), symbol("room", WEAK, 1, 8),
        ],
        [
            relocation(0, 1, 8, WIDE, -1), relocation(0, 1, 4, NEAR, 2), relocation(0, 3, 0, LOW, 3),
            relocation(2, 1, 7, SHORT, 5),
        ],
    )


class FormCase(unittest.TestCase):
    def assert_object(self, data, root="root"):
        self.assertEqual(join(BASE, ROOM, name(root), [data])[0], 0)

    def assert_none(self, data, root="root"):
        self.assertEqual(join(BASE, ROOM, name(root), [data]), NONE)


class Lengths(FormCase):
    def test_whole_object(self):
        self.assert_object(whole_object())

    def test_every_shorter_one_is_none(self):
        data = whole_object()
        for length in range(len(data)):
            with self.subTest(length=length):
                self.assert_none(data[:length])

    def test_longer_ones_are_none(self):
        data = whole_object()
        for extra in ([0], [255], [0] * 8, [0] * 12, [0] * 16):
            with self.subTest(extra=extra):
                self.assert_none(data + extra)

    def test_bytes_in_front_are_none(self):
        self.assert_none([0] + whole_object())

    def test_an_object_without_anything(self):
        self.assertEqual(join(BASE, ROOM, name("root"), [make()]), [-3])

    def test_zeros_have_no_bytes(self):
        symbols = [symbol("root", FOR_ALL, 0)]
        self.assert_object(make([section(ZEROS, 8)], symbols))
        self.assert_none(make([section(ZEROS, 8)], symbols) + [0] * 8)

    def test_counts_that_say_more_or_less_than_there_is(self):
        data = whole_object()
        for at in (4, 6, 8, 10):
            with self.subTest(at=at):
                self.assert_none(changed(data, at, data[at] + 1))
                self.assert_none(changed(data, at, data[at] - 1))
                self.assert_none(changed(data, at + 1, 1))

    def test_sizes_that_say_more_or_less_than_there_is(self):
        data = whole_object()
        for number in (0, 2, 3):
            at = section_row(data, number) + 4
            with self.subTest(number=number):
                self.assert_none(changed(data, at, data[at] + 1))
                self.assert_none(changed(data, at, data[at] - 1))


class Head(FormCase):
    def test_each_letter(self):
        data = whole_object()
        for at in range(4):
            for other in (0, data[at] - 1, data[at] + 1, data[at] ^ 32, 255):
                with self.subTest(at=at, other=other):
                    self.assert_none(changed(data, at, other))

    def test_sections_64_at_most(self):
        symbols = [symbol("root", FOR_ALL, 0)]
        self.assert_object(make([section(CODE)] * 64, symbols))
        self.assert_none(make([section(CODE)] * 65, symbols))

    def test_symbols_256_at_most(self):
        def symbols(count):
            return [symbol(0, FOR_ALL, NUMBER, 1)] + [symbol(1, OWN, NUMBER, 1)] * (count - 1)
        self.assert_object(make([], symbols(256), names=b"a\0"), "a")
        self.assert_none(make([], symbols(257), names=b"a\0"), "a")

    def test_relocations_1024_at_most(self):
        def with_relocations(count):
            return make([section(CODE, [0])], [symbol("root", FOR_ALL, 0)], [relocation(0, 0, 0, SHORT)] * count)
        self.assert_object(with_relocations(1024))
        self.assert_none(with_relocations(1025))

    def test_names_8192_bytes_at_most(self):
        def with_names(count):
            return make([section(CODE, [0])], [symbol(0, FOR_ALL, 0)], names=b"root\0".ljust(count, b"x"))
        self.assert_object(with_names(8192))
        self.assert_none(with_names(8193))


class Sections(FormCase):
    def test_kinds(self):
        for kind in (CODE, CONSTANTS, DATA, ZEROS):
            self.assert_object(make([section(kind, 0)], [symbol("root", FOR_ALL, 0)]))
        for kind in (4, 5, 128, 255):
            with self.subTest(kind=kind):
                self.assert_none(make([section(kind)], [symbol("root", FOR_ALL, 0)]))

    def test_alignments(self):
        for power in range(13):
            self.assert_object(make([section(CODE, [1], power)], [symbol("root", FOR_ALL, 0)]))
        for power in (13, 14, 64, 255):
            with self.subTest(power=power):
                self.assert_none(make([section(CODE, [1], power)], [symbol("root", FOR_ALL, 0)]))

    def test_marks(self):
        for mark in (0, 1):
            self.assert_object(make([section(CODE, [1], 0, mark)], [symbol("root", FOR_ALL, 0)]))
        for mark in (2, 3, 255, 256, 257, 65535):
            with self.subTest(mark=mark):
                self.assert_none(make([section(CODE, [1], 0, mark)], [symbol("root", FOR_ALL, 0)]))

    def test_sizes_with_bytes(self):
        for kind in (CODE, CONSTANTS, DATA):
            with self.subTest(kind=kind):
                self.assert_object(make([section(kind, [1] * 65536)], [symbol("root", FOR_ALL, 0)]))
                self.assert_none(make([section(kind, [1] * 65537)], [symbol("root", FOR_ALL, 0)]))

    def test_sizes_of_zeros(self):
        for size in (0, 1, 65535, 65536):
            self.assert_object(make([section(ZEROS, size)], [symbol("root", FOR_ALL, 0)]))
        for size in (65537, 131072, 1 << 24, 0xFFFFFFFF):
            with self.subTest(size=size):
                self.assert_none(make([section(ZEROS, size)], [symbol("root", FOR_ALL, 0)]))

    def test_a_section_that_is_not_kept_still_has_to_be_one(self):
        self.assert_none(make([section(CODE, [1]), section(4)], [symbol("root", FOR_ALL, 0)]))


class Symbols(FormCase):
    def one(self, odd, names=None):
        return make([section(CODE, range(4)), section(ZEROS, 9)], [symbol("root", FOR_ALL, 0), odd], names=names)

    def test_a_name_ends_before_a_zero_byte(self):
        def named_at(begin, names):
            return make([section(CODE, [1])], [symbol(0, FOR_ALL, 0), symbol(begin, OWN, 0)], names=names)
        self.assert_object(named_at(0, b"root\0"))
        self.assert_object(named_at(2, b"root\0"))
        self.assert_object(named_at(4, b"root\0"))
        self.assert_object(named_at(5, b"root\0abc\0"))
        self.assert_none(named_at(5, b"root\0"))
        self.assert_none(named_at(6, b"root\0"))
        self.assert_none(named_at(65535, b"root\0"))
        self.assert_none(named_at(256, b"root\0"))
        self.assert_none(named_at(5, b"root\0abc"))
        self.assert_none(named_at(7, b"root\0abc"))

    def test_names_without_any_zero_byte(self):
        self.assert_none(make([section(CODE, [1])], [symbol(0, FOR_ALL, 0)], names=b"root"))

    def test_the_zero_byte_has_to_be_among_the_names(self):
        self.assert_none(make([section(CODE, [0])], [symbol(0, FOR_ALL, 0)], names=b"root"))

    def test_names_behind_the_last_zero_byte_are_no_fault(self):
        self.assert_object(make([section(CODE, [1])], [symbol(0, FOR_ALL, 0)], names=b"root\0more"))

    def test_bindings(self):
        for binding in (OWN, FOR_ALL, WEAK):
            self.assert_object(self.one(symbol("odd", binding, 0)))
        for binding in (3, 4, 128, 255):
            with self.subTest(binding=binding):
                self.assert_none(self.one(symbol("odd", binding, 0)))

    def test_unused_bytes_are_0(self):
        data = self.one(symbol("odd", FOR_ALL, 0))
        for at in (3, 6, 7):
            for other in (1, 128, 255):
                with self.subTest(at=at, other=other):
                    self.assert_none(changed(data, symbol_row(data, 1) + at, other))

    def test_section_numbers(self):
        self.assert_object(self.one(symbol("odd", FOR_ALL, 1)))
        for place in (2, 3, 256, 0x8000, 0xFFFD):
            for binding in (OWN, FOR_ALL, WEAK):
                with self.subTest(place=place, binding=binding):
                    self.assert_none(self.one(symbol("odd", binding, place)))

    def test_a_section_number_where_there_are_no_sections(self):
        self.assert_none(make([], [symbol("root", FOR_ALL, NUMBER), symbol("odd", FOR_ALL, 0)]))

    def test_how_far_into_its_section(self):
        for place, size in ((0, 4), (1, 9)):
            for value in range(size + 1):
                self.assert_object(self.one(symbol("odd", OWN, place, value)))
            for value in (size + 1, 256 + size, 1 << 16, 1 << 24, 0xFFFFFFFF):
                with self.subTest(place=place, value=value):
                    self.assert_none(self.one(symbol("odd", OWN, place, value)))

    def test_a_number_is_any(self):
        for binding in (OWN, FOR_ALL, WEAK):
            for value in (0, 1, 65537, 0x80000000, 0xFFFFFFFF):
                self.assert_object(self.one(symbol("odd", binding, NUMBER, value)))

    def test_one_without_a_place_has_0(self):
        for binding in (FOR_ALL, WEAK):
            self.assert_object(self.one(symbol("odd", binding, NO_PLACE, 0)))
            for value in (1, 256, 65536, 1 << 24, 0xFFFFFFFF):
                with self.subTest(binding=binding, value=value):
                    self.assert_none(self.one(symbol("odd", binding, NO_PLACE, value)))

    def test_an_objects_own_has_a_place(self):
        self.assert_none(self.one(symbol("odd", OWN, NO_PLACE)))
        self.assert_none(self.one(symbol("", OWN, NO_PLACE)))

    def test_only_an_objects_own_may_have_an_empty_name(self):
        for place in (0, NUMBER):
            self.assert_object(self.one(symbol("", OWN, place)))
        for place in (0, NUMBER, NO_PLACE):
            for binding in (FOR_ALL, WEAK):
                with self.subTest(place=place, binding=binding):
                    self.assert_none(self.one(symbol("", binding, place)))


class Relocations(FormCase):
    def one(self, odd, size=12):
        return make(
            [kept(CODE, [9] * size), section(ZEROS, 64), section(DATA, [9] * 64)],
            [symbol("root", FOR_ALL, 0), symbol("own", OWN, NUMBER, 0)],
            [odd],
        )

    def test_sections(self):
        self.assert_object(self.one(relocation(2, 0, 0, WIDE)))
        for place in (3, 4, 256, 258, NUMBER, NO_PLACE):
            with self.subTest(place=place):
                self.assert_none(self.one(relocation(place, 0, 0, WIDE)))

    def test_not_of_zeros(self):
        for kind in (WIDE, NEAR, LOW, SHORT):
            with self.subTest(kind=kind):
                self.assert_none(self.one(relocation(1, 0, 0, kind)))

    def test_symbols(self):
        self.assert_object(self.one(relocation(0, 1, 0, WIDE)))
        for number in (2, 3, 256, 257, 65535):
            with self.subTest(number=number):
                self.assert_none(self.one(relocation(0, number, 0, WIDE)))

    def test_within_the_section(self):
        for kind, width, number in ((WIDE, 8, 0), (NEAR, 4, 0), (LOW, 4, 0), (SHORT, 1, 0)):
            last = 12 - width
            for offset in (0, last):
                self.assert_object(self.one(relocation(0, number, offset, kind)))
            for offset in (last + 1, 12, 13, 256, 65536, 1 << 24, 0xFFFFFFFF, 0x100000000 - width):
                with self.subTest(kind=kind, offset=offset):
                    self.assert_none(self.one(relocation(0, number, offset, kind)))

    def test_sections_that_are_just_large_enough(self):
        for kind, width in ((WIDE, 8), (NEAR, 4), (LOW, 4), (SHORT, 1)):
            with self.subTest(kind=kind):
                self.assert_object(self.one(relocation(0, 0, 0, kind), width))
                self.assert_none(self.one(relocation(0, 0, 0, kind), width - 1))

    def test_kinds(self):
        for kind in (4, 5, 128, 255):
            with self.subTest(kind=kind):
                self.assert_none(self.one(relocation(0, 0, 0, kind)))

    def test_unused_bytes_are_0(self):
        data = self.one(relocation(0, 0, 0, WIDE))
        self.assert_object(data)
        for at in (9, 10, 11):
            for other in (1, 128, 255):
                with self.subTest(at=at, other=other):
                    self.assert_none(changed(data, relocation_row(data, 0) + at, other))

    def test_one_of_a_section_that_is_not_kept_still_has_to_be_one(self):
        data = make([section(CODE, [1]), section(DATA, [1])], [symbol("root", FOR_ALL, 0)], [relocation(1, 0, 0, 4)])
        self.assert_none(data)


class Order(FormCase):
    def test_bytes_of_sections_follow_in_their_order(self):
        data = make(
            [kept(DATA, [1, 2]), kept(ZEROS, 3), kept(CODE, [3]), kept(CONSTANTS, [4, 5, 6])],
            [symbol("root", FOR_ALL, 2)],
        )
        self.assertEqual(data[-6:], [1, 2, 3, 4, 5, 6])
        answer = join(BASE, ROOM, name("root"), [data])
        self.assertEqual(answer[:4], [0, 8194, 12291, BASE])
        image = answer[4:]
        self.assertEqual(image[0], 3)
        self.assertEqual(image[4096:4099], [4, 5, 6])
        self.assertEqual(image[8192:], [1, 2])

    def test_numbers_have_the_lowest_byte_first(self):
        data = make(
            [kept(CODE, [7] * 300)], [symbol("root", FOR_ALL, NUMBER, 0x04030201)], [relocation(0, 0, 258, WIDE)],
        )
        answer = join(BASE, ROOM, name("root"), [data])
        self.assertEqual(answer[3], 0x04030201)
        self.assertEqual(answer[4 + 256:4 + 268], [7, 7, 1, 2, 3, 4, 0, 0, 0, 0, 7, 7])

    def test_the_first_that_is_none_is_told(self):
        good = whole_object()
        empty = make()
        for first in range(32):
            objects = [good] + [empty] * 31
            objects[first] = low(0, 12)
            objects[31] = []
            with self.subTest(first=first):
                self.assertEqual(join(BASE, ROOM, name("root"), objects), [-1, first, 0])


if __name__ == "__main__":
    unittest.main()
