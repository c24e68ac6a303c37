"""What a symbol stands for, a name that is given twice, and the root."""

import unittest

from builder import (
    BASE, CODE, DATA, FOR_ALL, NO_PLACE, NUMBER, OWN, ROOM, WEAK, WIDE,
    asked, kept, low, make, name, relocation, section, symbol,
)
from joinedobjects.joiner import join


def asker(*symbols):
    """A kept section of code whose 8-byte places have the symbols' addresses; the root is a number."""
    count = len(symbols)
    return make(
        [kept(CODE, [9] * (8 * count))],
        list(symbols) + [symbol("root", FOR_ALL, NUMBER, 1)],
        [relocation(0, k, 8 * k, WIDE) for k in range(count)],
    )


def giver(binding, value, text="it"):
    return make([], [symbol(text, binding, NUMBER, value)])


def put(objects, count=1):
    """The addresses that were put into the first object's code."""
    answer = join(BASE, ROOM, name("root"), objects)
    assert answer[0] == 0, answer
    return [sum(answer[4 + 8 * k + j] << (8 * j) for j in range(8)) for k in range(count)]


class StandFor(unittest.TestCase):
    def test_a_name_for_all_is_found_in_objects_before_and_behind(self):
        self.assertEqual(put([asker(asked("it")), giver(FOR_ALL, 5)]), [5])
        self.assertEqual(put([asker(asked("it")), make(), make(), giver(FOR_ALL, 5)]), [5])
        objects = [giver(FOR_ALL, 5), asker(asked("it"))]
        self.assertEqual(join(BASE, ROOM, name("root"), objects)[4:12], low(5, 8))

    def test_for_all_goes_before_weakly_wherever_it_is(self):
        self.assertEqual(put([asker(asked("it")), giver(WEAK, 4), giver(FOR_ALL, 5), giver(WEAK, 6)]), [5])
        self.assertEqual(put([asker(asked("it")), giver(FOR_ALL, 5), giver(WEAK, 4)]), [5])

    def test_the_first_weak_one_if_there_is_no_other(self):
        self.assertEqual(put([asker(asked("it")), giver(WEAK, 4), giver(WEAK, 6)]), [4])
        self.assertEqual(put([asker(asked("it")), giver(WEAK, 6), giver(WEAK, 4)]), [6])

    def test_the_first_weak_one_within_an_object(self):
        data = make([], [symbol("it", WEAK, NUMBER, 8), symbol("it", WEAK, NUMBER, 3)])
        self.assertEqual(put([asker(asked("it")), data]), [8])

    def test_a_weak_one_with_a_place_stands_for_its_names_symbol(self):
        weak = symbol("it", WEAK, NUMBER, 4)
        self.assertEqual(put([asker(weak), giver(FOR_ALL, 5)]), [5])
        self.assertEqual(put([asker(weak)]), [4])
        objects = [giver(WEAK, 7), asker(weak)]
        self.assertEqual(join(BASE, ROOM, name("root"), objects)[4:12], low(7, 8))

    def test_one_asked_weakly_stands_for_its_names_symbol(self):
        self.assertEqual(put([asker(asked("it", WEAK)), giver(FOR_ALL, 5)]), [5])
        self.assertEqual(put([asker(asked("it", WEAK)), giver(WEAK, 6)]), [6])

    def test_one_asked_weakly_that_stands_for_nothing_is_0(self):
        self.assertEqual(put([asker(asked("it", WEAK))]), [0])
        self.assertEqual(put([asker(asked("it", WEAK)), make([], [asked("it")])]), [0])

    def test_one_asked_weakly_that_stands_for_nothing_has_its_addend(self):
        data = make([kept(CODE, [9] * 8)], [symbol("root", FOR_ALL, 0), asked("it", WEAK)], [relocation(0, 1, 0, WIDE, 6)])
        self.assertEqual(put([data]), [6])

    def test_ones_without_a_place_do_not_give_the_name(self):
        self.assertEqual(put([asker(asked("it")), make([], [asked("it")]), giver(WEAK, 6)]), [6])
        self.assertEqual(put([asker(asked("it")), make([], [asked("it", WEAK)]), giver(FOR_ALL, 6)]), [6])

    def test_an_objects_own_stands_for_itself(self):
        own = symbol("it", OWN, NUMBER, 2)
        self.assertEqual(put([asker(own), giver(FOR_ALL, 5)]), [2])
        self.assertEqual(put([asker(own), giver(WEAK, 5)]), [2])
        self.assertEqual(put([asker(own, symbol("it", OWN, NUMBER, 3))], 2), [2, 3])

    def test_an_objects_own_is_nobody_elses(self):
        own = symbol("it", OWN, NUMBER, 2)
        self.assertEqual(put([asker(own, asked("it")), giver(FOR_ALL, 5)], 2), [2, 5])
        self.assertEqual(put([asker(own, asked("it", WEAK))], 2), [2, 0])
        self.assertEqual(join(BASE, ROOM, name("root"), [asker(asked("it")), make([], [own])]), [-4, 0, 0])

    def test_own_ones_of_two_objects_stand_for_themselves(self):
        def with_own(value):
            return make([kept(CODE, [9] * 8)], [symbol("it", OWN, NUMBER, value)], [relocation(0, 0, 0, WIDE)])
        answer = join(BASE, ROOM, name("root"), [giver(FOR_ALL, 1, "root"), with_own(5), with_own(6)])
        self.assertEqual(answer[4:20], low(5, 8) + low(6, 8))

    def test_names_are_told_apart_by_every_byte(self):
        objects = [asker(asked("it"), asked("i"), asked("itt"), asked("It"), asked("ti"))]
        for value, text in ((1, "ti"), (2, "It"), (3, "itt"), (4, "i"), (5, "it")):
            objects.append(giver(FOR_ALL, value, text))
        self.assertEqual(put(objects, 5), [5, 4, 3, 2, 1])

    def test_names_that_share_their_bytes(self):
        data = make(
            [kept(CODE, [9] * 16)], [symbol(0, FOR_ALL, 0), symbol(2, FOR_ALL, NO_PLACE), symbol(3, FOR_ALL, NUMBER, 8)],
            [relocation(0, 1, 0, WIDE), relocation(0, 2, 8, WIDE)], names=b"root\0",
        )
        self.assertEqual(put([data, giver(FOR_ALL, 5, "ot")], 2), [5, 8])

    def test_names_of_bytes_above_127(self):
        data = make([], [symbol(0, FOR_ALL, NUMBER, 5)], names=[255, 128, 1, 0])
        self.assertEqual(join(BASE, ROOM, [255, 128, 1], [data]), [0, 0, 0, 5])

    def test_a_symbol_that_stands_for_one_in_another_objects_section(self):
        objects = [asker(asked("it")), make([section(DATA, [1, 2, 3])], [symbol("it", FOR_ALL, 0, 2)])]
        self.assertEqual(put(objects), [BASE + 4096 + 2])


class GivenTwice(unittest.TestCase):
    def answer(self, *objects):
        return join(BASE, ROOM, name("root"), [giver(FOR_ALL, 1, "root")] + list(objects))

    def test_in_two_objects(self):
        self.assertEqual(self.answer(giver(FOR_ALL, 5), giver(FOR_ALL, 5)), [-2, 2, 0])
        self.assertEqual(self.answer(giver(FOR_ALL, 5), make(), giver(FOR_ALL, 6)), [-2, 3, 0])

    def test_in_one_object(self):
        data = make([], [symbol("a", FOR_ALL, NUMBER), symbol("it", FOR_ALL, NUMBER), symbol("it", FOR_ALL, NUMBER)])
        self.assertEqual(self.answer(data), [-2, 1, 2])

    def test_in_sections_that_are_not_kept(self):
        data = make([section(CODE, [1])], [symbol("it", FOR_ALL, 0)])
        self.assertEqual(self.answer(data, data), [-2, 2, 0])

    def test_the_roots_own_name(self):
        self.assertEqual(self.answer(giver(FOR_ALL, 1, "root")), [-2, 1, 0])

    def test_the_first_symbol_that_gives_one_again_is_told(self):
        early = make([], [symbol("a", FOR_ALL, NUMBER), symbol("b", FOR_ALL, NUMBER), symbol("c", FOR_ALL, NUMBER)])
        late = make([], [symbol("x", FOR_ALL, NUMBER), symbol("c", FOR_ALL, NUMBER), symbol("a", FOR_ALL, NUMBER)])
        self.assertEqual(self.answer(early, late, late), [-2, 2, 1])

    def test_the_third_is_not_told_but_the_second(self):
        self.assertEqual(self.answer(giver(FOR_ALL, 5), giver(FOR_ALL, 5), giver(FOR_ALL, 5)), [-2, 2, 0])

    def test_ones_that_do_not_count_lie_between(self):
        between = make([], [symbol("it", WEAK, NUMBER), asked("it"), symbol("it", OWN, NUMBER)])
        last = make([], [asked("it"), symbol("it", WEAK, NUMBER), symbol("it", FOR_ALL, NUMBER)])
        self.assertEqual(self.answer(between, giver(FOR_ALL, 5), between, last), [-2, 4, 2])

    def test_not_twice(self):
        for other in (
            symbol("it", WEAK, NUMBER), symbol("it", OWN, NUMBER), asked("it"), asked("it", WEAK),
            symbol("it2", FOR_ALL, NUMBER),
        ):
            with self.subTest(other=other):
                odd = make([], [other])
                self.assertEqual(self.answer(giver(FOR_ALL, 5), odd, odd if other[0] == "it" else make())[0], 0)
                self.assertEqual(self.answer(odd, giver(FOR_ALL, 5))[0], 0)

    def test_weakly_twice_is_no_fault(self):
        self.assertEqual(self.answer(giver(WEAK, 5), giver(WEAK, 5))[0], 0)


class Root(unittest.TestCase):
    def test_in_a_section(self):
        data = make([section(CODE, [1, 2, 3])], [symbol("go", FOR_ALL, 0, 2)])
        self.assertEqual(join(BASE, ROOM, name("go"), [data])[3], BASE + 2)

    def test_at_its_sections_very_end(self):
        data = make([section(CODE, [1, 2, 3])], [symbol("go", FOR_ALL, 0, 3)])
        self.assertEqual(join(BASE, ROOM, name("go"), [data]), [0, 4096, 4096, BASE + 3, 1, 2, 3] + [0] * 4093)

    def test_a_number(self):
        for value in (0, 7, 0xFFFFFFFF):
            self.assertEqual(join(BASE, ROOM, name("go"), [giver(FOR_ALL, value, "go")]), [0, 0, 0, value])

    def test_weak(self):
        objects = [giver(WEAK, 3, "go"), giver(WEAK, 4, "go")]
        self.assertEqual(join(BASE, ROOM, name("go"), objects), [0, 0, 0, 3])
        self.assertEqual(join(BASE, ROOM, name("go"), objects + [giver(FOR_ALL, 5, "go")]), [0, 0, 0, 5])

    def test_in_any_object(self):
        data = make([section(CODE, [1])], [symbol("go", FOR_ALL, 0)])
        self.assertEqual(join(BASE, ROOM, name("go"), [make()] * 31 + [data])[:4], [0, 4096, 4096, BASE])

    def test_no_symbol(self):
        for other in (
            symbol("og", FOR_ALL, 0), symbol("go", OWN, 0), symbol("go", OWN, NUMBER), asked("go"), asked("go", WEAK),
            symbol("g", FOR_ALL, 0), symbol("goo", FOR_ALL, 0),
        ):
            with self.subTest(other=other):
                self.assertEqual(join(BASE, ROOM, name("go"), [make([kept(CODE, [1])], [other])]), [-3])

    def test_the_empty_name_has_no_symbol(self):
        self.assertEqual(join(BASE, ROOM, [], [make([kept(CODE, [1])], [symbol("", OWN, 0)])]), [-3])

    def test_a_zero_byte_is_in_no_name(self):
        data = make([], [symbol("go", FOR_ALL, NUMBER), symbol("on", FOR_ALL, NUMBER)])
        self.assertEqual(join(BASE, ROOM, name("go\0"), [data]), [-3])
        self.assertEqual(join(BASE, ROOM, name("go\0on"), [data]), [-3])
        self.assertEqual(join(BASE, ROOM, name("\0go"), [data]), [-3])

    def test_the_longest_name(self):
        data = make([], [symbol(0, FOR_ALL, NUMBER, 6)], names=b"n" * 8191 + b"\0")
        self.assertEqual(join(BASE, ROOM, name("n" * 8191), [data]), [0, 0, 0, 6])
        self.assertEqual(join(BASE, ROOM, name("n" * 8190), [data]), [-3])


if __name__ == "__main__":
    unittest.main()
