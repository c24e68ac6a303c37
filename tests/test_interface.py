"""What the interface promises of every call."""

import contextlib
import copy
import inspect
import io
import unittest

from builder import (
    BASE, CODE, DATA, FOR_ALL, NEAR, NUMBER, OWN, ROOM, SHORT, WEAK, WIDE, ZEROS,
    asked, kept, make, name, relocation, section, symbol,
)
from joinedobjects import joiner
from joinedobjects.joiner import join


def program():
    first = make(
        [section(CODE, range(16), 2), section(ZEROS, 10)], [symbol("root", FOR_ALL, 0, 2), asked("box"), symbol("", OWN, 1)],
        [relocation(0, 1, 0, WIDE, 1), relocation(0, 2, 8, NEAR, -1)],
    )
    second = make([section(DATA, range(5), 4), kept(DATA, [9])], [symbol("box", WEAK, 0, 3)], [relocation(0, 0, 0, SHORT)])
    return [first, second]


def calls():
    """One call for each thing that may be answered."""
    good = program()
    far = make([kept(CODE, [0])], [symbol("far", OWN, NUMBER)], [relocation(0, 0, 0, SHORT)])
    return [
        (0, (BASE, ROOM, name("root"), good)),
        (-1, (BASE, ROOM, name("root"), good + [[1, 2]])),
        (-2, (BASE, ROOM, name("root"), good + good[:1])),
        (-3, (BASE, ROOM, name("no"), good)),
        (-4, (BASE, ROOM, name("root"), good[:1])),
        (-5, (BASE, ROOM, name("root"), good + [far])),
        (-6, (BASE, 1, name("root"), good)),
        (-7, (BASE, ROOM, name("root"), [])),
    ]


class Untouchable(list):
    """A list that says so when it is changed, even if only for a while."""

    def refuse(self, *args, **kwargs):
        raise AssertionError("what was handed in was changed")

    append = clear = extend = insert = pop = remove = reverse = sort = refuse
    __setitem__ = __delitem__ = __iadd__ = __imul__ = refuse


class Interface(unittest.TestCase):
    def test_names_of_the_arguments(self):
        self.assertEqual(list(inspect.signature(joiner.join).parameters), ["base", "room", "root", "objects"])
        base, room, root, objects = BASE, ROOM, name("root"), program()
        self.assertEqual(
            join(objects=objects, root=root, room=room, base=base), join(base, room, root, objects),
        )

    def test_what_is_answered_first(self):
        for code, arguments in calls():
            with self.subTest(code=code):
                self.assertEqual(join(*arguments)[0], code)

    def test_how_many_numbers_are_answered(self):
        for code, arguments in calls():
            answer = join(*arguments)
            expected = {0: 4 + answer[1] if code == 0 else 0, -1: 3, -2: 3, -4: 3, -5: 3}.get(code, 1)
            with self.subTest(code=code):
                self.assertEqual(len(answer), expected)

    def test_one_list_of_whole_numbers(self):
        for code, arguments in calls():
            answer = join(*arguments)
            with self.subTest(code=code):
                self.assertIs(type(answer), list)
                self.assertEqual({type(number) for number in answer}, {int})
                self.assertTrue(all(0 <= number <= 255 for number in answer[4:]))

    def test_what_is_handed_in_stays_as_it_was(self):
        for code, arguments in calls():
            before = copy.deepcopy(arguments)
            join(*arguments)
            with self.subTest(code=code):
                self.assertEqual(arguments, before)

    def test_what_is_handed_in_is_not_changed_for_a_while_either(self):
        for code, (base, room, root, objects) in calls():
            with self.subTest(code=code):
                watched = Untouchable([Untouchable(data) for data in objects])
                self.assertEqual(join(base, room, Untouchable(root), watched), join(base, room, root, objects))

    def test_the_same_call_gives_the_same_answer(self):
        first = [join(*arguments) for code, arguments in calls()]
        again = [join(*arguments) for code, arguments in reversed(calls())]
        self.assertEqual(first, again[::-1])

    def test_a_changed_answer_changes_no_later_one(self):
        for code, arguments in calls():
            answer = join(*arguments)
            kept_answer = list(answer)
            answer.clear()
            with self.subTest(code=code):
                self.assertEqual(join(*arguments), kept_answer)

    def test_one_list_handed_in_several_times(self):
        data = make([kept(DATA, [1, 2], 2)])
        root = make([], [symbol("root", FOR_ALL, NUMBER, 4)])
        answer = join(BASE, ROOM, name("root"), [data, root, data, data])
        self.assertEqual(answer, [0, 10, 4096, 4, 1, 2, 0, 0, 1, 2, 0, 0, 1, 2])

    def test_it_prints_nothing(self):
        out, err = io.StringIO(), io.StringIO()
        with contextlib.redirect_stdout(out), contextlib.redirect_stderr(err):
            for code, arguments in calls():
                join(*arguments)
        self.assertEqual(out.getvalue() + err.getvalue(), "")

    def test_the_most_that_is_handed_in(self):
        row = [symbol(k, OWN, 0) for k in range(100)]
        data = make([kept(DATA, range(16))], row, [relocation(0, k, 0, WIDE) for k in range(20)], names=b"n" * 1500 + b"\0")
        self.assertLess(len(data), 3151)
        data_root = make([], [symbol("root", FOR_ALL, NUMBER, 4)])
        answer = join(BASE, ROOM, name("root"), [data] * 31 + [data_root])
        self.assertEqual(answer[:4], [0, 31 * 16, 4096, 4])


if __name__ == "__main__":
    unittest.main()
