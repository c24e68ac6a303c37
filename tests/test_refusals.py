"""Each refusal, its limits, and which of several is answered."""

import unittest

from builder import (
    BASE, CODE, CONSTANTS, DATA, FOR_ALL, LOW, NUMBER, OWN, ROOM, SHORT, WEAK, WIDE, ZEROS,
    asked, kept, make, name, relocation, section, symbol,
)
from joinedobjects.joiner import join

TOP = 18446744073709551615
GOOD = make([kept(CODE, [1, 2])], [symbol("root", FOR_ALL, 0)])
NO_OBJECT = [1, 2, 3]
TWICE = make([], [symbol("it", FOR_ALL, NUMBER), symbol("it", FOR_ALL, NUMBER)])
UNBOUND = make([kept(CODE, [0] * 8)], [asked("none")], [relocation(0, 0, 0, WIDE)])
FAR = make([kept(CODE, [0])], [symbol("far", OWN, NUMBER, 0)], [relocation(0, 0, 0, SHORT)])


class Limits(unittest.TestCase):
    def test_how_many_objects(self):
        self.assertEqual(join(BASE, ROOM, name("root"), []), [-7])
        self.assertEqual(join(BASE, ROOM, name("root"), [GOOD])[0], 0)
        self.assertEqual(join(BASE, ROOM, name("root"), [GOOD] + [make()] * 31)[0], 0)
        for count in (32, 33, 39):
            self.assertEqual(join(BASE, ROOM, name("root"), [GOOD] + [make()] * count), [-7])

    def test_how_long_root_is(self):
        for length in (0, 1, 8191, 8192):
            self.assertEqual(join(BASE, ROOM, [120] * length, [GOOD]), [-3])
        for length in (8193, 8300):
            self.assertEqual(join(BASE, ROOM, [120] * length, [GOOD]), [-7])

    def test_how_much_room(self):
        self.assertEqual(join(BASE, 268435455, name("root"), [GOOD])[0], 0)
        self.assertEqual(join(BASE, 268435456, name("root"), [GOOD])[0], 0)
        for room in (268435457, 1 << 32, TOP):
            self.assertEqual(join(BASE, room, name("root"), [GOOD]), [-7])

    def test_base_is_a_multiple(self):
        for base in (1, 2048, 4095, 4097, BASE + 1, BASE - 1, BASE + 2048, 140737488355327):
            self.assertEqual(join(base, ROOM, name("root"), [GOOD]), [-7])
        for base in (0, 4096, 8192, BASE):
            self.assertEqual(join(base, ROOM, name("root"), [GOOD])[0], 0)

    def test_base_is_below(self):
        self.assertEqual(join(140737488355328 - 4096, ROOM, name("root"), [GOOD])[3], 140737488355328 - 4096)
        for base in (140737488355328, 140737488355328 + 4096, TOP - 4095, TOP):
            self.assertEqual(join(base, ROOM, name("root"), [GOOD]), [-7])


class Unbound(unittest.TestCase):
    def test_the_relocation_is_told(self):
        data = make(
            [kept(CODE, [0] * 8)], [symbol("root", FOR_ALL, 0), asked("none"), asked("never", WEAK)],
            [relocation(0, 0, 0, WIDE), relocation(0, 2, 0, WIDE), relocation(0, 1, 0, WIDE), relocation(0, 1, 0, WIDE)],
        )
        self.assertEqual(join(BASE, ROOM, name("root"), [data]), [-4, 0, 2])
        self.assertEqual(join(BASE, ROOM, name("root"), [make(), data, UNBOUND]), [-4, 1, 2])

    def test_the_first_object_is_told(self):
        self.assertEqual(join(BASE, ROOM, name("root"), [GOOD, UNBOUND, UNBOUND]), [-4, 1, 0])
        self.assertEqual(join(BASE, ROOM, name("root"), [UNBOUND, GOOD, UNBOUND]), [-4, 0, 0])

    def test_only_relocations_of_kept_sections_count(self):
        data = make(
            [section(CODE, [0] * 8), kept(CODE, [0] * 8)], [asked("none")],
            [relocation(0, 0, 0, WIDE), relocation(1, 0, 0, WIDE)],
        )
        self.assertEqual(join(BASE, ROOM, name("root"), [GOOD, data]), [-4, 1, 1])

    def test_of_each_kind(self):
        for kind in (0, 1, 2, 3):
            data = make([kept(CODE, [0] * 8)], [asked("none")], [relocation(0, 0, 0, kind)])
            self.assertEqual(join(BASE, ROOM, name("root"), [GOOD, data]), [-4, 1, 0])

    def test_the_symbol_itself_has_to_be_weak(self):
        elsewhere = make([], [asked("none", WEAK)])
        self.assertEqual(join(BASE, ROOM, name("root"), [GOOD, UNBOUND, elsewhere]), [-4, 1, 0])
        both = make(
            [kept(CODE, [0] * 8)], [asked("none", WEAK), asked("none")],
            [relocation(0, 0, 0, WIDE), relocation(0, 1, 0, WIDE)],
        )
        self.assertEqual(join(BASE, ROOM, name("root"), [GOOD, both]), [-4, 1, 1])

    def test_one_that_is_asked_but_not_used_is_no_fault(self):
        data = make([kept(CODE, [0] * 8)], [asked("none")])
        self.assertEqual(join(BASE, ROOM, name("root"), [GOOD, data])[0], 0)


class TooFar(unittest.TestCase):
    def test_the_relocation_is_told(self):
        data = make(
            [kept(CODE, [0] * 8)], [symbol("here", OWN, 0), symbol("far", OWN, NUMBER, 0)],
            [relocation(0, 0, 0, SHORT), relocation(0, 1, 0, LOW, -1), relocation(0, 1, 0, SHORT)],
        )
        self.assertEqual(join(BASE, ROOM, name("root"), [GOOD, data]), [-5, 1, 1])
        self.assertEqual(join(BASE, ROOM, name("root"), [make(), GOOD, data, FAR]), [-5, 2, 1])
        self.assertEqual(join(BASE, ROOM, name("root"), [FAR, GOOD, data]), [-5, 0, 0])

    def test_only_relocations_of_kept_sections_count(self):
        data = make(
            [section(CODE, [0]), kept(CODE, [0])], [symbol("far", OWN, NUMBER, 0)],
            [relocation(0, 0, 0, SHORT), relocation(1, 0, 0, SHORT)],
        )
        self.assertEqual(join(BASE, ROOM, name("root"), [GOOD, data]), [-5, 1, 1])

    def test_one_that_would_be_put_over_is_too_far_all_the_same(self):
        data = make(
            [kept(CODE, [0])], [symbol("far", OWN, NUMBER, 0), symbol("here", OWN, 0)],
            [relocation(0, 0, 0, SHORT), relocation(0, 1, 0, SHORT)],
        )
        self.assertEqual(join(BASE, ROOM, name("root"), [GOOD, data]), [-5, 1, 0])


class Room(unittest.TestCase):
    def answer(self, room, sections):
        return join(BASE, room, name("root"), [make(sections, [symbol("root", FOR_ALL, NUMBER)])])

    def test_just_enough(self):
        self.assertEqual(self.answer(5, [kept(DATA, [1] * 5)])[:3], [0, 5, 4096])
        self.assertEqual(self.answer(4, [kept(DATA, [1] * 5)]), [-6])
        self.assertEqual(self.answer(4096, [kept(CODE, [1])])[:3], [0, 4096, 4096])
        self.assertEqual(self.answer(4095, [kept(CODE, [1])]), [-6])
        self.assertEqual(self.answer(4097, [kept(CONSTANTS, [1]), kept(DATA, [1])])[:3], [0, 4097, 8192])
        self.assertEqual(self.answer(4096, [kept(CONSTANTS, [1]), kept(DATA, [1])]), [-6])

    def test_none(self):
        self.assertEqual(self.answer(0, []), [0, 0, 0, 0])
        self.assertEqual(self.answer(0, [kept(DATA, [1])]), [-6])

    def test_zeros_need_no_room(self):
        self.assertEqual(self.answer(0, [kept(ZEROS, 65536)]), [0, 0, 65536, 0])
        self.assertEqual(self.answer(1, [kept(DATA, [1]), kept(ZEROS, 65536)]), [0, 1, 4096 + 65536, 0, 1])

    def test_sections_that_are_left_out_need_no_room(self):
        self.assertEqual(self.answer(0, [section(CODE, [1])]), [0, 0, 0, 0])

    def test_a_large_image_that_has_no_room(self):
        sections = [kept(CODE, [1], 12)] * 64
        objects = [GOOD] + [make(sections)] * 31
        self.assertEqual(join(BASE, 31 * 64 * 4096, name("root"), objects), [-6])


class FirstOfSeveral(unittest.TestCase):
    def test_each_two_neighbours_and_more(self):
        # Each row breaks one promise; objects of several rows break several, and the first row's answer is given.
        wrong = [("root", NO_OBJECT, -1), ("root", TWICE, -2), ("none", GOOD, -3), ("root", UNBOUND, -4), ("root", FAR, -5)]
        for first in range(len(wrong)):
            for second in range(first, len(wrong)):
                for objects in ([GOOD, wrong[first][1], wrong[second][1]], [GOOD, wrong[second][1], wrong[first][1]]):
                    if GOOD in objects[1:]:
                        objects = [one for one in objects if one != GOOD] + [GOOD]
                    if first == second and wrong[first][1] != NO_OBJECT:
                        objects = objects[:2]
                    root = "none" if "none" in (wrong[first][0], wrong[second][0]) else "root"
                    for room in (0, ROOM):
                        with self.subTest(first=wrong[first][2], second=wrong[second][2], room=room):
                            self.assertEqual(join(BASE, room, name(root), objects)[0], wrong[first][2])

    def test_beyond_limits_goes_before_all(self):
        worst = [NO_OBJECT, TWICE, UNBOUND, FAR]
        self.assertEqual(join(BASE + 1, 0, name("none"), worst), [-7])
        self.assertEqual(join(BASE, ROOM + 1, name("none"), worst), [-7])
        self.assertEqual(join(BASE, 0, [1] * 8193, worst), [-7])
        self.assertEqual(join(BASE, 0, name("none"), [NO_OBJECT] * 33), [-7])
        self.assertEqual(join(1 << 47, 0, name("none"), worst), [-7])

    def test_all_the_others_in_their_order(self):
        objects = [FAR, UNBOUND, TWICE, NO_OBJECT]
        self.assertEqual(join(BASE, 0, name("none"), objects), [-1, 3, 0])
        self.assertEqual(join(BASE, 0, name("none"), objects[:3]), [-2, 2, 1])
        self.assertEqual(join(BASE, 0, name("none"), objects[:2]), [-3])
        self.assertEqual(join(BASE, 0, name("root"), objects[:2] + [GOOD]), [-4, 1, 0])
        self.assertEqual(join(BASE, 0, name("root"), [FAR, GOOD]), [-5, 0, 0])
        self.assertEqual(join(BASE, 0, name("root"), [GOOD]), [-6])

    def test_one_that_is_none_behind_a_name_given_twice(self):
        self.assertEqual(join(BASE, ROOM, name("root"), [GOOD, GOOD, NO_OBJECT, NO_OBJECT]), [-1, 2, 0])

    def test_one_that_is_too_far_ahead_of_an_unbound_one_in_one_object(self):
        data = make(
            [kept(CODE, [0] * 8)], [symbol("far", OWN, NUMBER, 0), asked("none")],
            [relocation(0, 0, 0, SHORT), relocation(0, 1, 0, SHORT)],
        )
        self.assertEqual(join(BASE, ROOM, name("root"), [GOOD, data]), [-4, 1, 1])


if __name__ == "__main__":
    unittest.main()
