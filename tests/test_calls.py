"""The form of an answer, and that a call leaves nothing behind."""

import contextlib
import io
import unittest

import roundedonce.floats
from model import FORMATS, ONE_OPS, TWO_OPS, edges
from roundedonce.floats import change, class_of, compare, fix, fused, of_whole, one, order, to_whole, two


def calls():
    found = []
    for f in FORMATS:
        values = edges(f)[::5]
        for how in (0, 1, 14):
            found += [(one, (f, op, how, 0, a)) for op in ONE_OPS.values() for a in values]
            found += [(two, (f, op, how, 0, a, b)) for op in TWO_OPS.values() for a in values for b in values]
            found += [(fused, (f, sort, how, a, b, values[3])) for sort in range(4) for a in values for b in values]
            found += [(compare, (f, sort, how, a, b)) for sort in range(32) for a in values for b in values]
            found += [(order, (f, strict, how, a, b)) for strict in (0, 7) for a in values for b in values]
            found += [(class_of, (f, imm, how, a)) for imm in (0, 97, 255) for a in values]
            found += [(fix, (f, imm, how, 0x89ABC210, a, b)) for imm in (0, 77) for a in values[:3] for b in values]
            found += [(change, (f, g, how, a)) for g in FORMATS for a in values]
            found += [(to_whole, (f, kind, cut, how, a)) for kind in range(4) for cut in (0, 5) for a in values]
            found += [(of_whole, (kind, f, how, a)) for kind in range(4) for a in values + edges(2)[::3]]
    # One of each call that is refused.
    found += [(one, (3, 0, 0, 0, 0)), (two, (0, 7, 0, 0, 0, 0)), (fused, (1, 4, 0, 0, 0, 0)),
              (compare, (1, 32, 0, 0, 0)), (order, (3, 0, 0, 0, 0)), (class_of, (1, 256, 0, 0)),
              (fix, (0, 0, 0, 0, 0, 0)), (change, (1, 1, 0, 0)), (to_whole, (1, 4, 0, 0, 0)), (of_whole, (4, 1, 0, 0))]
    return found


class Calls(unittest.TestCase):
    def test_answers_are_lists_of_whole_numbers(self):
        for call, handed in calls():
            found = call(*handed)
            self.assertIs(type(found), list)
            self.assertEqual({type(x) for x in found}, {int})
            self.assertIn((len(found), found[0]), [(1, -1), (2 if call is class_of else 3, 0)])
            if len(found) == 3:
                self.assertLess(found[2], 64)

    def test_each_call_is_as_if_for_the_first_time(self):
        listed = calls()
        first = [call(*handed) for call, handed in listed]
        kept = [list(found) for found in first]
        for found in first:
            found.append(7)
        again = [call(*handed) for call, handed in reversed(listed)]
        self.assertEqual(again[::-1], kept)

    def test_nothing_is_printed(self):
        out, err = io.StringIO(), io.StringIO()
        with contextlib.redirect_stdout(out), contextlib.redirect_stderr(err):
            for call, handed in calls():
                call(*handed)
        self.assertEqual((out.getvalue(), err.getvalue()), ("", ""))

    def test_arguments_by_name(self):
        self.assertEqual(one(f=1, op=0, how=0, imm=0, a=0x40800000), [0, 0x40000000, 0])
        self.assertEqual(two(f=1, op=1, how=0, imm=0, a=0x40800000, b=0x40000000), [0, 0x40000000, 0])

        self.assertEqual(fused(f=1, sort=1, how=0, a=0x40800000, b=0x3F800000, c=0x40000000), [0, 0x40000000, 0])
        self.assertEqual(compare(f=1, sort=1, how=0, a=0x40800000, b=0x40000000), [0, 0, 0])
        self.assertEqual(order(f=1, strict=0, how=0, a=0x40800000, b=0x40000000), [0, 2, 0])
        self.assertEqual(class_of(f=1, imm=8, how=0, a=0x7F800000), [0, 1])
        self.assertEqual(fix(f=1, imm=8, how=0, table=0x9000, a=0, b=0x3F800000), [0, 0xBF800000, 1])
        self.assertEqual(change(f=1, g=2, how=0, a=0x3F800000), [0, 0x3FF0000000000000, 0])
        self.assertEqual(to_whole(f=1, kind=0, cut=0, how=0, a=0x40800000), [0, 4, 0])
        self.assertEqual(of_whole(kind=0, g=1, how=0, v=4), [0, 0x40800000, 0])

    def test_names_of_the_module(self):
        for call in (one, two, fused, compare, order, class_of, fix, change, to_whole, of_whole):
            self.assertIs(getattr(roundedonce.floats, call.__name__), call)

    def test_flags_that_stand_alone(self):
        for call, handed in calls():
            found = call(*handed)
            # Of fix two bits of imm may ask for both.
            if len(found) == 3 and found[2] & 5 and call is not fix:
                self.assertIn(found[2], (1, 4), (call, handed))

    def test_flags_that_a_call_can_have(self):
        possible = {compare: (0, 1, 2), order: (0, 1, 2), fix: (0, 1, 4, 5), to_whole: (0, 1, 32),
                    of_whole: (0, 32, 40)}
        for call, handed in calls():
            found = call(*handed)
            if len(found) == 3 and call in possible:
                self.assertIn(found[2], possible[call], (call, handed))
            if call is of_whole and len(found) == 3 and handed[1] != 0:
                self.assertIn(found[2], (0, 32), handed)


if __name__ == "__main__":
    unittest.main()
