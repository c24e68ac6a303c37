"""What each kind of relocation puts, and when it is too far."""

import unittest

from builder import (
    BASE, CODE, DATA, FOR_ALL, LOW, NEAR, NUMBER, OWN, ROOM, SHORT, WEAK, WIDE, ZEROS,
    asked, kept, low, make, name, relocation, section, symbol,
)
from joinedobjects.joiner import join

LEAST = -(1 << 31)
GREATEST = (1 << 31) - 1


def one(kind, target, addend, base=BASE, offset=0):
    """The answer for 16 bytes of data with one relocation; target: the number it has, or None for nothing."""
    ask = asked("it", WEAK) if target is None else symbol("it", OWN, NUMBER, target)
    data = make([kept(DATA, [238] * 16)], [ask, symbol("root", FOR_ALL, NUMBER)], [relocation(0, 0, offset, kind, addend)])
    return join(base, ROOM, name("root"), [data])


class Case(unittest.TestCase):
    def assert_puts(self, value, width, kind, target, addend, base=BASE, offset=0):
        image = [238] * offset + low(value, width) + [238] * (16 - width - offset)
        self.assertEqual(one(kind, target, addend, base, offset), [0, 16, 4096, 0] + image)

    def assert_too_far(self, kind, target, addend, base=BASE, offset=0):
        self.assertEqual(one(kind, target, addend, base, offset), [-5, 0, 0])


class Wide(Case):
    def test_sum(self):
        self.assert_puts(5, 8, WIDE, 5, 0)
        self.assert_puts(12, 8, WIDE, 5, 7, offset=8)
        self.assert_puts(2, 8, WIDE, 5, -3, offset=3)
        self.assert_puts(0xFFFFFFFF + GREATEST, 8, WIDE, 0xFFFFFFFF, GREATEST)

    def test_modulo_2_to_the_64th(self):
        self.assert_puts((1 << 64) - 1, 8, WIDE, 0, -1)
        self.assert_puts((1 << 64) - 1, 8, WIDE, None, -1)
        self.assert_puts((1 << 64) + LEAST, 8, WIDE, 0, LEAST)
        self.assert_puts((1 << 64) - 2, 8, WIDE, 5, -7)
        self.assert_puts(0, 8, WIDE, 7, -7)

    def test_base_does_not_count(self):
        self.assert_puts(9, 8, WIDE, 9, 0, base=140737488351232)


class Near(Case):
    def test_difference(self):
        self.assert_puts(-4096, 4, NEAR, 0, 0, base=4096)
        self.assert_puts(-4096 - 5 + 3, 4, NEAR, 0, 3, base=4096, offset=5)
        self.assert_puts(7, 4, NEAR, 4096, 7, base=4096)
        self.assert_puts(0, 4, NEAR, 4100, 0, base=4096, offset=4)

    def test_the_least_and_the_greatest(self):
        self.assert_puts(GREATEST, 4, NEAR, 4096, GREATEST, base=4096)
        self.assert_too_far(NEAR, 4097, GREATEST, base=4096)
        self.assert_puts(LEAST, 4, NEAR, 4096, LEAST, base=4096)
        self.assert_too_far(NEAR, 4095, LEAST, base=4096)
        self.assert_puts(LEAST, 4, NEAR, 4099, LEAST, base=4096, offset=3)
        self.assert_too_far(NEAR, 4099, LEAST, base=4096, offset=4)

    def test_by_a_number_or_nothing(self):
        self.assert_puts(GREATEST, 4, NEAR, GREATEST, 0, base=0)
        self.assert_too_far(NEAR, GREATEST + 1, 0, base=0)
        self.assert_too_far(NEAR, 0xFFFFFFFF, 0, base=0)
        self.assert_puts(LEAST, 4, NEAR, None, 0, base=1 << 31)
        self.assert_too_far(NEAR, None, -1, base=1 << 31)
        self.assert_too_far(NEAR, None, 0, base=140737488351232)
        self.assert_puts(-1, 4, NEAR, None, -1, base=0)

    def test_far_by_a_multiple_of_2_to_the_32nd(self):
        self.assert_too_far(NEAR, 0, 0, base=1 << 32)
        self.assert_too_far(NEAR, 4, 0, base=1 << 40)


class Low(Case):
    def test_sum(self):
        self.assert_puts(0, 4, LOW, 0, 0)
        self.assert_puts(0x01020304 + 5, 4, LOW, 0x01020304, 5, offset=12)
        self.assert_puts(1, 4, LOW, 8, -7)

    def test_the_least_and_the_greatest(self):
        self.assert_puts(0xFFFFFFFF, 4, LOW, 0xFFFFFFFF, 0)
        self.assert_too_far(LOW, 0xFFFFFFFF, 1)
        self.assert_puts(0xFFFFFFFF, 4, LOW, 0x80000000, GREATEST)
        self.assert_too_far(LOW, 0x80000001, GREATEST)
        self.assert_puts(0, 4, LOW, 7, -7)
        self.assert_too_far(LOW, 7, -8)
        self.assert_puts(0, 4, LOW, 0x80000000, LEAST)
        self.assert_too_far(LOW, 0x7FFFFFFF, LEAST)

    def test_of_nothing(self):
        self.assert_puts(0, 4, LOW, None, 0)
        self.assert_puts(GREATEST, 4, LOW, None, GREATEST)
        self.assert_too_far(LOW, None, -1)

    def test_of_a_place(self):
        data = make([kept(DATA, [1] * 4)], [symbol("root", FOR_ALL, 0)], [relocation(0, 0, 0, LOW, 4095)])
        high = (1 << 32) - 4096
        self.assertEqual(join(high, ROOM, name("root"), [data])[4:], [255] * 4)
        self.assertEqual(join(high + 4096, ROOM, name("root"), [data]), [-5, 0, 0])
        data = make([kept(DATA, [1] * 4)], [symbol("root", FOR_ALL, 0)], [relocation(0, 0, 0, LOW, 4096)])
        self.assertEqual(join(high, ROOM, name("root"), [data]), [-5, 0, 0])


class Short(Case):
    def test_difference(self):
        self.assert_puts(0, 1, SHORT, 4096, 0, base=4096)
        self.assert_puts(-2, 1, SHORT, 4096, 0, base=4096, offset=2)
        self.assert_puts(5, 1, SHORT, 4100, 3, base=4096, offset=2)

    def test_the_least_and_the_greatest(self):
        self.assert_puts(127, 1, SHORT, 4096, 127, base=4096)
        self.assert_too_far(SHORT, 4096, 128, base=4096)
        self.assert_puts(-128, 1, SHORT, 4096, -128, base=4096, offset=0)
        self.assert_too_far(SHORT, 4096, -129, base=4096)
        self.assert_puts(-128, 1, SHORT, 3970, 0, base=4096, offset=2)
        self.assert_too_far(SHORT, 3970, 0, base=4096, offset=3)
        self.assert_puts(127, 1, SHORT, 4238, 0, base=4096, offset=15)
        self.assert_too_far(SHORT, 4238, 0, base=4096, offset=14)

    def test_far_by_a_multiple_of_256(self):
        self.assert_too_far(SHORT, 4096 + 256, 0, base=4096)
        self.assert_too_far(SHORT, 4096 - 256, 0, base=4096)
        self.assert_too_far(SHORT, None, 0)
        self.assert_puts(-128, 1, SHORT, None, -128, base=0)
        self.assert_too_far(SHORT, None, -129, base=0)

    def test_jumps_between_sections(self):
        def jump(gap):
            return make(
                [kept(CODE, [7]), kept(CODE, [0] * gap), kept(CODE, [8])],
                [symbol("root", FOR_ALL, 0), symbol("", OWN, 2)],
                [relocation(0, 1, 0, SHORT), relocation(2, 0, 0, SHORT)],
            )
        answer = join(BASE, ROOM, name("root"), [jump(126)])
        self.assertEqual([answer[4], answer[4 + 127]], [127, 256 - 127])
        self.assertEqual(join(BASE, ROOM, name("root"), [jump(127)]), [-5, 0, 0])


class Places(unittest.TestCase):
    def test_the_place_is_the_relocations_own_not_its_sections(self):
        first = make([kept(CODE, [1] * 5)], [symbol("root", FOR_ALL, 0, 5)])
        second = make([kept(CODE, [9] * 12, 2)], [asked("root")], [relocation(0, 0, 6, NEAR, -4)])
        answer = join(BASE, ROOM, name("root"), [first, second])
        self.assertEqual(answer[4:24], [1] * 5 + [0] * 3 + [9] * 6 + low(5 - 4 - 14, 4) + [9] * 2)

    def test_a_place_in_the_zeros_is_reached(self):
        data = make(
            [kept(DATA, [1] * 4), section(ZEROS, 9)], [symbol("root", FOR_ALL, 0), symbol("", OWN, 1, 9)],
            [relocation(0, 1, 0, NEAR)],
        )
        self.assertEqual(join(BASE, ROOM, name("root"), [data])[1:], [4, 4105, BASE] + low(4096 + 9, 4))

    def test_what_stood_there_is_not_added(self):
        data = make([kept(DATA, [255] * 8)], [symbol("root", FOR_ALL, NUMBER, 3)], [relocation(0, 0, 0, WIDE)])
        self.assertEqual(join(BASE, ROOM, name("root"), [data])[4:], [3, 0, 0, 0, 0, 0, 0, 0])

    def test_later_ones_are_put_over_earlier_ones(self):
        def over(first, second):
            return make(
                [kept(DATA, [255] * 8)], [symbol("root", FOR_ALL, NUMBER, 0x01020304), symbol("", OWN, NUMBER, 0x0A0B0C0D)],
                [first, second],
            )
        data = over(relocation(0, 0, 0, WIDE), relocation(0, 1, 2, LOW))
        self.assertEqual(join(BASE, ROOM, name("root"), [data])[4:], [4, 3, 13, 12, 11, 10, 0, 0])
        data = over(relocation(0, 1, 2, LOW), relocation(0, 0, 0, WIDE))
        self.assertEqual(join(BASE, ROOM, name("root"), [data])[4:], [4, 3, 2, 1, 0, 0, 0, 0])

    def test_relocations_out_of_their_places_order(self):
        data = make(
            [kept(DATA, [255] * 4), kept(DATA, [254] * 4)], [symbol("root", FOR_ALL, 1), symbol("", OWN, 0)],
            [relocation(1, 1, 3, SHORT), relocation(0, 0, 2, SHORT), relocation(1, 0, 0, SHORT, -1)],
        )
        self.assertEqual(join(BASE, ROOM, name("root"), [data])[4:], [255, 255, 2, 255, 255, 254, 254, 249])

    def test_every_kind_in_one_section(self):
        data = make(
            [kept(DATA, [9] * 20)], [symbol("root", FOR_ALL, 0, 20)],
            [relocation(0, 0, 0, WIDE, 1), relocation(0, 0, 9, NEAR, 2), relocation(0, 0, 13, LOW, -3), relocation(0, 0, 18, SHORT, -4)],
        )
        image = low(BASE + 21, 8) + [9] + low(20 + 2 - 9, 4) + low(BASE + 17, 4) + [9] + low(20 - 4 - 18, 1) + [9]
        self.assertEqual(join(BASE, ROOM, name("root"), [data])[4:], image)


if __name__ == "__main__":
    unittest.main()
