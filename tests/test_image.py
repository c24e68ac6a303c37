"""Where the kept sections stand, and how far the image and the whole go."""

import itertools
import unittest

from builder import (
    BASE, CODE, CONSTANTS, DATA, FOR_ALL, LOW, NUMBER, OWN, ROOM, WIDE, ZEROS,
    kept, make, name, relocation, symbol,
)
from joinedobjects.joiner import join

PAGE = 4096


def at_number(sections, *others):
    """The answer for kept sections, with a root that keeps none."""
    objects = [make(sections, [symbol("root", FOR_ALL, NUMBER, 77)])] + [make(more) for more in others]
    return join(BASE, ROOM, name("root"), objects)


class Kinds(unittest.TestCase):
    def test_each_alone_and_together(self):
        sizes = {CODE: 5, CONSTANTS: 6, DATA: 7, ZEROS: 8}
        marks = {CODE: 11, CONSTANTS: 12, DATA: 13}
        expected = {
            (): (0, 0), (CODE,): (PAGE, PAGE), (CONSTANTS,): (PAGE, PAGE), (DATA,): (7, PAGE), (ZEROS,): (0, 8),
            (CODE, CONSTANTS): (2 * PAGE, 2 * PAGE), (CODE, DATA): (PAGE + 7, 2 * PAGE),
            (CODE, ZEROS): (PAGE, PAGE + 8), (CONSTANTS, DATA): (PAGE + 7, 2 * PAGE),
            (CONSTANTS, ZEROS): (PAGE, PAGE + 8), (DATA, ZEROS): (7, PAGE + 8),
            (CODE, CONSTANTS, DATA): (2 * PAGE + 7, 3 * PAGE), (CODE, CONSTANTS, ZEROS): (2 * PAGE, 2 * PAGE + 8),
            (CODE, DATA, ZEROS): (PAGE + 7, 2 * PAGE + 8), (CONSTANTS, DATA, ZEROS): (PAGE + 7, 2 * PAGE + 8),
            (CODE, CONSTANTS, DATA, ZEROS): (2 * PAGE + 7, 3 * PAGE + 8),
        }
        for kinds, (image_size, whole_size) in expected.items():
            image = [0] * image_size
            for k, kind in enumerate([kind for kind in kinds if kind != ZEROS]):
                for j in range(sizes[kind]):
                    image[k * PAGE + j] = marks[kind]
            contents = [kept(kind, 8 if kind == ZEROS else [marks[kind]] * sizes[kind]) for kind in kinds]
            for order in itertools.permutations(contents):
                with self.subTest(order=order):
                    self.assertEqual(at_number(order), [0, image_size, whole_size, 77] + image)

    def test_sections_of_size_0(self):
        for kind in (CODE, CONSTANTS, DATA, ZEROS):
            self.assertEqual(at_number([kept(kind, 0)]), [0, 0, 0, 77])
        self.assertEqual(at_number([kept(kind, 0) for kind in (CODE, CONSTANTS, DATA, ZEROS)]), [0, 0, 0, 77])
        self.assertEqual(at_number([kept(kind, 0, 12) for kind in (CODE, CONSTANTS, DATA, ZEROS)]), [0, 0, 0, 77])

    def test_a_section_of_size_0_has_its_alignment(self):
        self.assertEqual(at_number([kept(DATA, [1]), kept(DATA, 0, 3)]), [0, 8, PAGE, 77, 1] + [0] * 7)
        self.assertEqual(at_number([kept(ZEROS, 1), kept(ZEROS, 0, 12)]), [0, 0, PAGE, 77])

    def test_sections_that_fill_their_pages(self):
        for kind in (CODE, CONSTANTS):
            self.assertEqual(at_number([kept(kind, [1] * 4095), kept(DATA, [2])])[:3], [0, PAGE + 1, 2 * PAGE])
            self.assertEqual(at_number([kept(kind, [1] * 4096), kept(DATA, [2])])[:3], [0, PAGE + 1, 2 * PAGE])
            self.assertEqual(at_number([kept(kind, [1] * 4097), kept(DATA, [2])])[:3], [0, 2 * PAGE + 1, 3 * PAGE])
        for size, whole in ((4095, PAGE), (4096, PAGE), (4097, 2 * PAGE)):
            self.assertEqual(at_number([kept(DATA, [1] * size)])[:3], [0, size, whole])
            self.assertEqual(at_number([kept(DATA, [1] * size), kept(ZEROS, 3)])[:3], [0, size, whole + 3])

    def test_the_whole_ends_with_the_last_of_the_zeros(self):
        for size in (1, 4095, 4096, 4097, 65536):
            self.assertEqual(at_number([kept(ZEROS, size)]), [0, 0, size, 77])

    def test_many_zeros(self):
        sections = [kept(ZEROS, 65536)] * 64
        answer = at_number(sections, *[sections] * 31)
        self.assertEqual(answer, [0, 0, 32 * 64 * 65536, 77])


class Within(unittest.TestCase):
    def test_object_by_object_in_their_order(self):
        answer = at_number(
            [kept(DATA, [1]), kept(CODE, [2]), kept(DATA, [3])],
            [kept(CODE, [4]), kept(DATA, [5]), kept(CODE, [6])],
            [kept(DATA, [7]), kept(CODE, [8])],
        )
        self.assertEqual(answer[:4], [0, PAGE + 4, 2 * PAGE, 77])
        self.assertEqual(answer[4:10], [2, 4, 6, 8, 0, 0])
        self.assertEqual(answer[4 + PAGE:], [1, 3, 5, 7])

    def test_alignments(self):
        for power in range(13):
            step = 1 << power
            for first in sorted({1, step - 1, step, step + 1} - {0}):
                at = -(-first // step) * step
                with self.subTest(power=power, first=first):
                    image = [3] * first + [0] * (at - first) + [4, 4]
                    whole = -(-(at + 2) // PAGE) * PAGE
                    answer = at_number([kept(DATA, [3] * first), kept(DATA, [4, 4], power)])
                    self.assertEqual(answer, [0, at + 2, whole, 77] + image)
                    answer = at_number([kept(DATA, [3] * first)], [kept(DATA, [4, 4], power)])
                    self.assertEqual(answer, [0, at + 2, whole, 77] + image)

    def test_alignments_of_each_kind(self):
        for power in range(13):
            step = 1 << power
            with self.subTest(power=power):
                self.assertEqual(at_number([kept(ZEROS, 1), kept(ZEROS, 3, power)]), [0, 0, max(step, 1) + 3, 77])
                for kind in (CODE, CONSTANTS):
                    answer = at_number([kept(kind, [5]), kept(kind, [6, 7], power)])
                    self.assertEqual(answer[1:3], [PAGE * (2 if power == 12 else 1)] * 2)
                    self.assertEqual([k for k in range(4, len(answer)) if answer[k] != 0], [4, 4 + step, 5 + step])

    def test_a_large_alignment_leaves_no_gap_behind_a_fitting_end(self):
        answer = at_number([kept(DATA, [1] * 8, 3), kept(DATA, [2] * 8, 3), kept(DATA, [3], 4)])
        self.assertEqual(answer[4:], [1] * 8 + [2] * 8 + [3])

    def test_between_sections_it_is_0(self):
        answer = at_number([kept(CODE, [255]), kept(CODE, [255], 12), kept(CONSTANTS, [255]), kept(DATA, [255])])
        marks = {0, PAGE, 2 * PAGE, 3 * PAGE}
        self.assertEqual(answer[4:], [255 if k in marks else 0 for k in range(3 * PAGE + 1)])

    def test_the_pages_end_belongs_to_the_image_where_there_are_no_data(self):
        self.assertEqual(at_number([kept(CODE, [9])]), [0, PAGE, PAGE, 77, 9] + [0] * 4095)


class Addresses(unittest.TestCase):
    def test_of_symbols_in_each_kind(self):
        sections = [kept(CODE, range(10)), kept(CONSTANTS, [1, 2]), kept(DATA, [0] * 40, 2), kept(ZEROS, 4, 5)]
        symbols = [symbol("root", FOR_ALL, 0, 10)] + [symbol("", OWN, k, k) for k in range(4)]
        data = make(sections, symbols, [relocation(2, k, 8 * k, WIDE) for k in range(5)])
        answer = join(BASE, ROOM, name("root"), [data])
        self.assertEqual(answer[:4], [0, 2 * PAGE + 40, 3 * PAGE + 4, BASE + 10])
        put = [int.from_bytes(answer[4 + 2 * PAGE + 8 * k:12 + 2 * PAGE + 8 * k], "little") for k in range(5)]
        ends = [BASE + 10, BASE, BASE + PAGE + 1, BASE + 2 * PAGE + 2, BASE + 3 * PAGE + 3]
        self.assertEqual(put, ends)

    def test_at_every_allowed_base(self):
        data = make([kept(CODE, range(8)), kept(ZEROS, 1)], [symbol("root", FOR_ALL, 1)], [relocation(0, 0, 0, WIDE)])
        for base in (0, PAGE, 1 << 32, 140737488355328 - PAGE):
            answer = join(base, ROOM, name("root"), [data])
            self.assertEqual(answer[:4], [0, PAGE, PAGE + 1, base + PAGE])
            self.assertEqual(answer[4:12], list((base + PAGE).to_bytes(8, "little")))

    def test_at_base_0(self):
        data = make([kept(DATA, [9] * 4)], [symbol("root", FOR_ALL, 0)], [relocation(0, 0, 0, LOW)])
        self.assertEqual(join(0, ROOM, name("root"), [data]), [0, 4, PAGE, 0, 0, 0, 0, 0])


class OneObject(unittest.TestCase):
    def test_whole_answer_for_a_small_program(self):
        data = make(
            [kept(CODE, [1, 2, 3, 4, 5, 6, 7, 8, 9]), kept(DATA, [10, 11])],
            [symbol("root", FOR_ALL, 0, 1), symbol("box", OWN, 1, 1)],
            [relocation(0, 1, 1, WIDE, 2)],
        )
        code = [1] + list((0x10000 + PAGE + 1 + 2).to_bytes(8, "little"))
        expected = [0, PAGE + 2, 2 * PAGE, 0x10001] + code + [0] * (PAGE - 9) + [10, 11]
        self.assertEqual(join(0x10000, ROOM, name("root"), [data]), expected)


if __name__ == "__main__":
    unittest.main()
