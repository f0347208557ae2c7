"""Modules as numbers [280] to [282]: writing and reading."""

import random
import unittest

from openrules.errors import InvalidNumbers
from openrules.numbers import numbers_of
from openrules.reading import parts_of
from samples import EXTRA, FIRST, LATER, RIGHT, Z, arithmetic, nested

P = ("p",)
HEAD = (79, 82, 77, 49)
EMPTY = HEAD + (1, 109, 0, 0, 0, 0)
DONE = (("done", 0, ()), ())
LONG = "aZ09zA" + 10 * "x"
SMALL = ("m", (), (("r", (("q", 0),), ("p", ("a",), 0)),), (), ())
ALL = (
    "all", ("one", LONG),
    (("r", (("q", 0), ("=", ("s", 65535), 256)), ("p", ("a",), 255)), ("b", (), ("=", Z, ("x",)))),
    ((True, (RIGHT, ("second", (0, (), ()), ()))), (False, (("c", (2, (P,), ((P,), (("p", 1), ("=", 0, 1)))),
                                                             (0, 200)),))),
    (("addZero", "natS", LATER), ("c", None, FIRST), ("x", "refl",
                                                      (("invert", 7), (("natS", DONE), ("", DONE), (LONG, DONE)))),
     ("y", None, (("done", 255, (0, ("f", 1, 2, 3, 4, 5, 6, 7, 8))), ()))),
)


def with_rules(*rules):
    return ("m", (), rules, (), ())


def with_proof(argument):
    return ("m", (), (), (), (("c", None, argument),))


def code(text):
    """A name as it is written."""
    return (len(text),) + tuple(text.encode("ascii"))


class NumbersTest(unittest.TestCase):

    def written(self, expected, parts):
        self.assertEqual(numbers_of(parts), expected)
        self.assertEqual(parts_of(expected), parts)

    def invalid(self, place, numbers):
        with self.assertRaises(InvalidNumbers) as caught:
            parts_of(numbers)
        self.assertEqual(vars(caught.exception), {"place": place})


class WritingTest(NumbersTest):

    def test_examples(self):
        self.written((79, 82, 77, 49, 1, 109, 0, 1, 1, 114, 1, 2, 1, 113, 0, 0, 0, 3, 1, 112, 1, 1, 97, 0, 0, 0, 0,
                      0), SMALL)
        for module in arithmetic():
            self.assertEqual(parts_of(numbers_of(module.parts)), module.parts)

    def test_nothing(self):
        self.written(EMPTY, ("m", (), (), (), ()))

    def test_names(self):
        self.written(HEAD + code(LONG) + (2,) + code("a") + code("zZ9") + (0, 0, 0), (LONG, ("a", "zZ9"), (), (), ()))

    def test_variables(self):
        for variable, pair in ((0, (0, 0)), (1, (0, 1)), (255, (0, 255)), (256, (1, 0)), (257, (1, 1)), (511, (1, 255)),
                               (65535, (255, 255)), (65280, (255, 0))):
            self.written(HEAD + code("m") + (0, 1) + code("r") + (0, 2) + code("p") + (0,) + pair + (0, 0),
                         with_rules(("r", (), ("p", variable))))

    def test_applications(self):
        for count in range(9):
            term = ("f",) + count * (Z,)
            expected = (2,) + code("p") + (1 + count,) + code("f") + count * ((1,) + code("z"))
            self.written(HEAD + code("m") + (0, 1) + code("r") + (0,) + expected + (0, 0),
                         with_rules(("r", (), ("p", term))))

    def test_atoms(self):
        inner = (0, 0, 0)
        for atom, expected in ((P, (1,) + code("p")), (("=", 0, Z), (3, 1, 61) + inner + (1,) + code("z")),
                               (("q", 0, 0), (3,) + code("q") + inner + inner),
                               (("p",) + 8 * (0,), (9,) + code("p") + 8 * inner)):
            self.written(HEAD + code("m") + (0, 1) + code("r") + (1,) + expected + expected + (0, 0),
                         with_rules(("r", (atom,), atom)))

    def test_theorems(self):
        p = (1, 1, 112)
        blocks = ((True, (("a", (12, (P, P), ((P,), (), (P, P))), (1, 255)), ("b", (255, (), ()), ()))),
                  (False, (("c", (0, (), ((),)), (0,)),)))
        self.written(HEAD + code("m") + (0, 0, 2) + (1, 2) + code("a") + (12, 2) + p + p + (3, 1) + p + (0, 2) + p + p
                     + (2, 1, 255) + code("b") + (255, 0, 0, 0) + (0, 1) + code("c") + (0, 0, 1, 0, 1, 0) + (0,),
                     ("m", (), (), blocks, ()))

    def test_steps(self):
        begin = HEAD + code("m") + (0, 0, 0, 1) + code("c") + (0,)
        z = (1,) + code("z")
        for step, expected in ((("done", 255, (Z, 0)), (1, 255, 2) + z + (0, 0, 0)), (("done", 0, ()), (1, 0, 0)),
                               (("rule", "refl", (Z,), (3, 255)), (2,) + code("refl") + (1,) + z + (2, 3, 255)),
                               (("apply", "c", (), ()), (3,) + code("c") + (0, 0)), (("invert", 200), (4, 200))):
            self.written(begin + expected + (0,), with_proof((step, ())))

    def test_parts_and_labels(self):
        begin = HEAD + code("m") + (0, 0, 0, 1) + code("c") + (0,)
        done = (1, 0, 0, 0)
        argument = (("invert", 1), (("", DONE), (LONG, (("invert", 2), (("a", DONE),))), ("b", DONE)))
        self.written(begin + (4, 1, 3, 0) + done + code(LONG) + (4, 2, 1) + code("a") + done + code("b") + done,
                     with_proof(argument))

    def test_entries(self):
        self.written(HEAD + code("m") + (0, 0, 0, 2) + code("c") + (0, 4, 0,
                                                                    0) + code("d") + (1,) + code("natZ") + (4, 0, 0),
                     ("m", (), (), (), (("c", None, (("invert", 0), ())), ("d", "natZ", (("invert", 0), ())))))

    def test_nothing_more_is_demanded(self):
        """Rules, statements and proofs may be wrong in any way."""
        rules = (("refl", (("=", 7, 7),), ("=", 9, 1)), ("refl", (), ("p", nested(18, Z))), ("x", 9 * (P,), P))
        blocks = ((True, 9 * (("t", (3, (("p", 9),), 6 * (5 * (P,),)), (4, 4)),)),)
        parts = ("m", ("m", "m"), rules, blocks, (("none", "none", EXTRA),))
        self.assertEqual(parts_of(numbers_of(parts)), parts)

    def test_long_lists(self):
        rules = 255 * (("r", 255 * (P,), P),)
        numbers = numbers_of(with_rules(*rules))
        self.assertGreater(len(numbers), 190000)
        self.assertEqual(parts_of(numbers), with_rules(*rules))
        for parts in (("m", 255 * ("a",), (), (), ()), ("m", (), (), 255 * ((False, (RIGHT,)),), ()),
                      ("m", (), (), ((True, 255 * (RIGHT,)),), 255 * (("c", None, DONE),)),
                      with_proof((("rule", "r", 255 * (Z,), 255 * (9,)), 255 * (("", DONE),)))):
            self.assertEqual(parts_of(numbers_of(parts)), parts)

    def test_deep(self):
        parts = with_rules(("r", (("p", nested(18, Z)), ("=", nested(18, 0), Z)), ("p", nested(18, 0))))
        self.assertEqual(parts_of(numbers_of(parts)), parts)
        argument = (("done", 0, (nested(19, Z), nested(19, 3))), ())
        for place in range(59):
            argument = (("rule", "r", (nested(19, place),), ()),
                        (("", argument), ("x", DONE)) if place else (("", argument),))
        parts = with_proof(argument)
        self.assertEqual(parts_of(numbers_of(parts)), parts)


class ReadingTest(NumbersTest):

    def test_the_head(self):
        self.invalid(0, ())
        for count in range(4):
            self.invalid(count, HEAD[:count])
            self.invalid(count, HEAD[:count] + (HEAD[count] + 1,) + EMPTY[count + 1:])
        self.invalid(4, HEAD)

    def test_names(self):
        self.invalid(5, (79, 82, 77, 49, 1, 65))
        for length in (0, 17, 255):
            self.invalid(4, HEAD + (length,) + 300 * (97,))
        for sign in range(256):
            small, any_sign = chr(sign).isascii() and chr(sign).islower(), chr(sign).isascii() and chr(sign).isalnum()
            first, second = HEAD + (1, sign, 0, 0, 0, 0), HEAD + (2, 97, sign, 0, 0, 0, 0)
            if small:
                self.assertEqual(parts_of(first)[0], chr(sign))
            else:
                self.invalid(5, first)
            if any_sign:
                self.assertEqual(parts_of(second)[0], "a" + chr(sign))
            else:
                self.invalid(6, second)

    def test_too_early(self):
        for parts in (SMALL, ALL):
            numbers = numbers_of(parts)
            for count in range(len(numbers)):
                self.invalid(count, numbers[:count])
            self.assertEqual(parts_of(numbers), parts)

    def test_integers_behind_a_module(self):
        for parts in (SMALL, ALL):
            numbers = numbers_of(parts)
            for more in ((0,), (255,), (79, 82, 77, 49), numbers):
                self.invalid(len(numbers), numbers + more)

    def test_each_integer_changed(self):
        """What is read is what is written; otherwise all integers before the place can stand there, this one can't."""
        numbers = numbers_of(ALL)
        for place in range(len(numbers)):
            for other in sorted({0, 1, 2, 3, 4, 5, 9, 10, 16, 17, 61, 96, 97, 122, 123, 255, numbers[place] + 1}):
                changed = numbers[:place] + (min(other, 255),) + numbers[place + 1:]
                try:
                    self.assertEqual(numbers_of(parts_of(changed)), changed)
                except InvalidNumbers as caught:
                    found = caught.place
                    self.assertGreaterEqual(found, place)
                    self.assertLessEqual(found, len(changed))
                    if found < len(changed) and found != self.whole(changed[:found]):
                        self.invalid(found, changed[:found])
                        self.invalid(found, changed[:found + 1])

    def whole(self, numbers):
        """The number of the integers if they are those of a whole module."""
        try:
            parts_of(numbers)
        except InvalidNumbers:
            return None
        return len(numbers)

    def test_each_beginning_can_go_on(self):
        """The least integer that can stand at each next place leads to a whole module."""
        choose = random.Random(282)
        full = numbers_of(ALL)
        for count in [choose.randrange(len(full)) for _ in range(60)] + [0, 4, len(full) - 1]:
            numbers = full[:count]
            while self.whole(numbers) is None:
                before = len(numbers)
                for number in range(256):
                    try:
                        parts_of(numbers + (number,))
                        numbers += (number,)
                        break
                    except InvalidNumbers as caught:
                        if caught.place > before:
                            numbers += (number,)
                            break
                self.assertEqual(len(numbers), before + 1)
                self.assertLess(len(numbers), count + 400)
            self.assertEqual(numbers_of(parts_of(numbers)), numbers)

    begin = HEAD + (1, 109, 0)

    def rule(self, *numbers):
        """The beginning of a module with one rule without premises, whose conclusion begins with these integers."""
        return self.begin + (1, 1, 114, 0) + numbers

    def test_atoms(self):
        start = len(self.rule())
        self.invalid(start, self.rule(0, 0, 0, 0, 0))
        self.invalid(start, self.rule(10))
        self.invalid(start + 1, self.rule(1, 0))
        self.invalid(start + 1, self.rule(1, 17))
        self.invalid(start + 2, self.rule(1, 1, 64))

    def test_equations(self):
        start = len(self.rule())
        equation = (3, 1, 61, 0, 0, 0, 0, 0, 1)
        self.assertEqual(parts_of(self.rule(*equation) + (0, 0))[2], (("r", (), ("=", 0, 1)),))
        self.invalid(start + 2, self.rule(2, 1, 61, 0, 0, 0, 0, 0))
        self.invalid(start + 2, self.rule(4, 1, 61, 0, 0, 0, 0, 0))
        self.invalid(start + 2, self.rule(1, 1, 61, 0, 0))
        self.invalid(start + 2, self.rule(3, 2, 61, 61, 0, 0))
        self.invalid(start + 3, self.rule(3, 2, 97, 61, 0, 0))
        self.invalid(start + 5, self.rule(*(2, 1, 112) + equation))
        self.invalid(start + 5, self.rule(*(3, 1, 61) + equation))
        self.invalid(len(self.begin) + 2, self.begin + (1, 1, 61))

    def test_equations_in_steps(self):
        begin = HEAD + code("m") + (0, 0, 0, 1) + code("c") + (0,)
        self.invalid(len(begin) + 5, begin + (1, 0, 1, 3, 1, 61))
        self.invalid(len(begin) + 2, begin + (2, 1, 61))

    def test_terms(self):
        start = len(self.rule(2, 1, 112))
        self.invalid(start, self.rule(2, 1, 112, 10))
        self.invalid(start + 1, self.rule(2, 1, 112, 1, 0))
        self.invalid(start + 3, self.rule(2, 1, 112, 0, 255, 255)[:start + 3])
        self.assertEqual(parts_of(self.rule(2, 1, 112, 0, 255, 254, 0, 0))[2][0][2], ("p", 65534))

    def test_depths_of_terms(self):
        deep = (2, 1, 115)
        for leaf in ((0, 0, 0), (1, 1, 122)):
            numbers = self.rule(*(2, 1, 112) + 18 * deep + leaf + (0, 0))
            self.assertEqual(numbers_of(parts_of(numbers)), numbers)
            numbers = self.rule(*(2, 1, 112) + 19 * deep + leaf + (0, 0))
            self.invalid(len(self.rule()) + 3 + 18 * 3, numbers)
        for places in (2, 3, 9):
            numbers = self.rule(*(3, 1, 61) + 18 * deep + (places,) + code("f") + 9 * (0, 0, 0))
            self.invalid(len(self.rule()) + 3 + 18 * 3, numbers)
        begin = HEAD + code("m") + (0, 0, 0, 1) + code("c") + (0, 1, 0, 1)
        numbers = begin + 19 * deep + (1, 1, 122) + (0,)
        self.assertEqual(parts_of(numbers)[4][0][2], (("done", 0, (nested(19, Z),)), ()))
        self.invalid(len(begin) + 19 * 3, begin + 20 * deep + (1, 1, 122) + (0,))

    def test_depths_of_proofs(self):
        begin = HEAD + code("m") + (0, 0, 0, 1) + code("c") + (0,)
        numbers = begin + 59 * (4, 0, 1, 0) + (4, 0, 0)
        self.assertEqual(numbers_of(parts_of(numbers)), numbers)
        for parts in (1, 2, 255):
            self.invalid(len(begin) + 59 * 4 + 2, begin + 59 * (4, 0, 1, 0) + (4, 0, parts) + (0, 4, 0, 0))
        wide = begin + (4, 0, 2, 0) + 58 * (4, 0, 1, 0) + (4, 0, 0, 0) + 58 * (4, 0, 1, 0)
        self.assertEqual(numbers_of(parts_of(wide + (4, 0, 0))), wide + (4, 0, 0))
        self.invalid(len(wide) + 2, wide + (4, 0, 1))

    def test_blocks(self):
        begin = self.begin + (0, 1)
        self.invalid(len(begin), begin + (2, 1))
        for is_open in (0, 1):
            self.invalid(len(begin) + 1, begin + (is_open, 0))
            numbers = begin + (is_open, 1, 1, 97, 0, 0, 0, 0, 0)
            self.assertEqual(parts_of(numbers)[3], ((is_open == 1, (("a", (0, (), ()), ()),)),))
            self.assertIs(parts_of(numbers)[3][0][0], is_open == 1)

    def test_steps(self):
        begin = HEAD + code("m") + (0, 0, 0, 1) + code("c") + (0,)
        for kind in (0, 5, 255):
            self.invalid(len(begin), begin + (kind, 0, 0, 0))
        for kind in (2, 3):
            self.invalid(len(begin) + 1, begin + (kind, 0, 0, 0))

    def test_entries(self):
        begin = HEAD + code("m") + (0, 0, 0, 1)
        self.invalid(len(begin), begin + (0,))
        self.invalid(len(begin) + 2, begin + code("c") + (2,))
        self.invalid(len(begin) + 3, begin + code("c") + (1, 0))

    def test_labels(self):
        begin = HEAD + code("m") + (0, 0, 0, 1) + code("c") + (0, 4, 0, 1)
        self.invalid(len(begin), begin + (17,))
        self.invalid(len(begin) + 1, begin + (1, 65))
        self.invalid(len(begin) + 2, begin + (2, 97, 61))
        self.assertEqual(parts_of(begin + (16,) + code(LONG)[1:] + (4, 9, 0))[4][0][2],
                         (("invert", 0), ((LONG, (("invert", 9), ())),)))

    def test_many_integers(self):
        numbers = HEAD + code("m") + (255,) + 255 * code("a")
        rest = (255,) + 255 * ((1, 114, 0, 9, 1, 112) + 8 * (9, 1, 102, *(8 * (9, 1, 103, *(8 * (0, 1, 2))))))
        numbers += rest
        self.assertGreater(len(numbers), 200000)
        self.invalid(200000, numbers[:200000])
        self.invalid(0, 200000 * (0,))

    def test_random_beginnings(self):
        choose = random.Random(280)
        for _ in range(2000):
            numbers = EMPTY[:choose.randrange(11)] + tuple(choose.randrange(choose.choice((3, 20, 256)))
                                                            for _ in range(choose.randrange(60)))
            try:
                self.assertEqual(numbers_of(parts_of(numbers)), numbers)
            except InvalidNumbers as caught:
                if caught.place < len(numbers):
                    self.invalid(caught.place, numbers[:caught.place + 1])


if __name__ == "__main__":
    unittest.main()
