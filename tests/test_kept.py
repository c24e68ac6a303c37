"""Which sections are kept."""

import unittest

from builder import (
    BASE, CODE, CONSTANTS, DATA, FOR_ALL, NEAR, NUMBER, OWN, ROOM, SHORT, WEAK, WIDE, ZEROS,
    asked, kept, make, name, relocation, section, symbol,
)
from joinedobjects.joiner import join


def joined(*objects):
    return join(BASE, ROOM, name("root"), list(objects))


def code_in(answer, size):
    """The code's bytes: what was kept, in its order, if each section's bytes are its own."""
    assert answer[0] == 0, answer
    return answer[4:4 + size]


class Kept(unittest.TestCase):
    def test_the_roots_section_alone(self):
        data = make([section(CODE, [1]), section(CODE, [2]), section(CODE, [3])], [symbol("root", FOR_ALL, 1)])
        self.assertEqual(code_in(joined(data), 3), [2, 0, 0])

    def test_the_section_whose_end_the_root_lies_at(self):
        data = make([section(CODE, [1]), section(CODE, [2])], [symbol("root", FOR_ALL, 0, 1)])
        self.assertEqual(code_in(joined(data), 3), [1, 0, 0])

    def test_marked_ones_without_anything_that_leads_there(self):
        data = make([kept(CODE, [1]), section(CODE, [2]), kept(CODE, [3])], [symbol("root", FOR_ALL, NUMBER)])
        self.assertEqual(joined(data, make([kept(CODE, [4])]))[4:9], [1, 3, 4, 0, 0])

    def test_nothing_at_all(self):
        data = make([section(CODE, [1]), section(ZEROS, 4)], [symbol("root", FOR_ALL, NUMBER, 3)])
        self.assertEqual(joined(data), [0, 0, 0, 3])

    def test_a_root_that_is_a_number_keeps_no_section(self):
        data = make([section(CODE, [1])], [symbol("root", FOR_ALL, NUMBER, 0)])
        self.assertEqual(joined(data), [0, 0, 0, 0])

    def test_one_that_a_relocation_of_a_kept_section_leads_to(self):
        for binding in (OWN, FOR_ALL, WEAK):
            data = make(
                [section(CODE, [7] * 4), section(CODE, [2]), section(CODE, [3])],
                [symbol("root", FOR_ALL, 0), symbol("it", binding, 2)], [relocation(0, 1, 0, NEAR)],
            )
            self.assertEqual(code_in(joined(data), 6), [4, 0, 0, 0, 3, 0])

    def test_one_that_a_relocation_of_a_marked_section_leads_to(self):
        data = make(
            [kept(CODE, [7]), section(CODE, [2]), section(CODE, [3])],
            [symbol("root", FOR_ALL, NUMBER), symbol("it", OWN, 2)], [relocation(0, 1, 0, SHORT)],
        )
        self.assertEqual(code_in(joined(data), 3), [1, 3, 0])

    def test_a_chain_through_objects(self):
        first = make([section(CODE, [1, 9])], [symbol("root", FOR_ALL, 0), asked("b")], [relocation(0, 1, 1, SHORT)])
        second = make(
            [section(CODE, [2, 9]), section(CODE, [3, 9])], [symbol("c", FOR_ALL, 0), asked("d")],
            [relocation(0, 1, 1, SHORT)],
        )
        third = make([section(CODE, [4, 9])], [symbol("b", FOR_ALL, 0), asked("c")], [relocation(0, 1, 1, SHORT)])
        fourth = make([section(CODE, [5, 6])], [symbol("d", FOR_ALL, 0, 1)])
        unused = make([section(CODE, [7, 9])], [symbol("e", FOR_ALL, 0), asked("b")], [relocation(0, 1, 1, SHORT)])
        answer = joined(first, second, unused, third, fourth)
        self.assertEqual(code_in(answer, 9), [1, 3, 2, 4, 4, 256 - 3, 5, 6, 0])

    def test_a_chain_through_every_section_of_every_object(self):
        def link(number):
            names = ["root" if number == 0 else f"s{number}", f"s{number + 1}"]
            inner = [symbol(names[0], FOR_ALL, 0)] + [symbol("", OWN, k) for k in range(1, 64)]
            last = asked(names[1], WEAK)
            return make(
                [section(DATA, [9] * 8) for k in range(64)], inner + [last],
                [relocation(k, k + 1, 0, WIDE) for k in range(64)],
            )
        answer = joined(*[link(number) for number in range(32)])
        self.assertEqual(answer[:4], [0, 32 * 64 * 8, 32 * 64 * 8, BASE])
        addresses = [int.from_bytes(answer[k:k + 8], "little") for k in range(4, len(answer), 8)]
        self.assertEqual(addresses, [BASE + 8 * k for k in range(1, 32 * 64)] + [0])

    def test_a_ring(self):
        data = make(
            [section(CODE, [7]), section(CODE, [7]), section(CODE, [5])],
            [symbol("root", FOR_ALL, 0), symbol("it", OWN, 1)],
            [relocation(0, 1, 0, SHORT), relocation(1, 0, 0, SHORT)],
        )
        self.assertEqual(code_in(joined(data), 3), [1, 255, 0])

    def test_a_section_that_leads_to_itself(self):
        data = make([section(CODE, [7])], [symbol("root", FOR_ALL, 0)], [relocation(0, 0, 0, SHORT)])
        self.assertEqual(code_in(joined(data), 2), [0, 0])

    def test_zeros_and_sections_of_size_0_are_kept_too(self):
        data = make(
            [section(CODE, [7] * 8), section(ZEROS, 5), section(ZEROS, 6)],
            [symbol("root", FOR_ALL, 0), symbol("it", OWN, 2, 6)], [relocation(0, 1, 0, WIDE)],
        )
        self.assertEqual(joined(data)[:3], [0, 4096, 4096 + 6])
        data = make([section(CONSTANTS), kept(CODE, [1])], [symbol("root", FOR_ALL, 0)])
        self.assertEqual(joined(data)[:4], [0, 4096, 4096, BASE + 4096])

    def test_a_weak_one_that_another_stands_for_is_left_out(self):
        first = make(
            [section(CODE, [7] * 8), section(CODE, [8])],
            [symbol("root", FOR_ALL, 0), symbol("it", WEAK, 1)], [relocation(0, 1, 0, WIDE)],
        )
        second = make([section(CODE, [6])], [symbol("it", FOR_ALL, 0)])
        self.assertEqual(code_in(joined(first, second), 10)[8:], [6, 0])
        self.assertEqual(code_in(joined(first), 10)[8:], [8, 0])

    def test_a_number_and_nothing_keep_no_section(self):
        data = make(
            [section(CODE, [7] * 16), section(CODE, [8])],
            [symbol("root", FOR_ALL, 0), symbol("n", OWN, NUMBER, 1), asked("it", WEAK)],
            [relocation(0, 1, 0, WIDE), relocation(0, 2, 8, WIDE)],
        )
        self.assertEqual(code_in(joined(data), 18), [1] + [0] * 17)

    def test_a_symbol_without_a_relocation_keeps_no_section(self):
        data = make(
            [section(CODE, [7]), section(CODE, [8])],
            [symbol("root", FOR_ALL, 0), symbol("it", FOR_ALL, 1), symbol("own", OWN, 1)],
        )
        self.assertEqual(code_in(joined(data), 2), [7, 0])


class NotKept(unittest.TestCase):
    def test_relocations_of_sections_that_are_not_kept_lead_nowhere(self):
        data = make(
            [section(CODE, [7]), section(CODE, [8] * 8), section(CODE, [6])],
            [symbol("root", FOR_ALL, 0), symbol("it", OWN, 2)], [relocation(1, 1, 0, WIDE)],
        )
        self.assertEqual(joined(data), [0, 4096, 4096, BASE, 7] + [0] * 4095)

    def test_relocations_of_sections_that_are_not_kept_may_ask_for_nothing(self):
        data = make(
            [section(CODE, [7]), section(CODE, [8] * 8)],
            [symbol("root", FOR_ALL, 0), asked("it")], [relocation(1, 1, 0, WIDE)],
        )
        self.assertEqual(joined(data)[0], 0)

    def test_relocations_of_sections_that_are_not_kept_may_be_too_far(self):
        data = make(
            [section(CODE, [7]), section(CODE, [8] * 8)],
            [symbol("root", FOR_ALL, 0), symbol("it", OWN, NUMBER)], [relocation(1, 1, 0, SHORT)],
        )
        self.assertEqual(joined(data)[0], 0)

    def test_relocations_to_a_kept_section_do_not_keep_their_own(self):
        data = make([section(CODE, [7]), section(CODE, [8])], [symbol("root", FOR_ALL, 0)], [relocation(1, 0, 0, SHORT)])
        self.assertEqual(code_in(joined(data), 2), [7, 0])

    def test_a_section_number_is_its_own_objects(self):
        first = make([section(CODE, [1]), section(CODE, [2])], [symbol("other", FOR_ALL, 1)])
        second = make([section(CODE, [3]), section(CODE, [4])], [symbol("root", FOR_ALL, 1)])
        self.assertEqual(code_in(joined(first, second), 2), [4, 0])


if __name__ == "__main__":
    unittest.main()
