"""compare: each of the 32 sorts, its answer and its flags."""

import unittest

from hand import Double, FORMATS, Half, Single
import model
from model import Sampler, come_in, edges
import model_compared
from model_compared import SORTS as MODEL_SORTS, asked_flags, is_strict, stand
from roundedonce.floats import compare

ALL_SORTS = range(32)
# By s, what is answered of less, equal, greater, not.
ANSWERS = {0: "0100", 1: "1000", 2: "1100", 3: "0001", 4: "1011", 5: "0111", 6: "0011", 7: "1110",
           8: "0101", 9: "1001", 10: "1101", 11: "0000", 12: "1010", 13: "0110", 14: "0010", 15: "1111"}
STRICT = (1, 2, 5, 6, 9, 10, 13, 14, 16, 19, 20, 23, 24, 27, 28, 31)
LESS, EQUAL, GREATER, NOT = range(4)


class Hand(unittest.TestCase):
    def stands(self, n, how, a, b, standing, flags):
        """Flags of a no number are told by a pair: of sorts that aren't strict, of those that are."""
        for sort in ALL_SORTS:
            told = flags[sort in STRICT] if isinstance(flags, tuple) else flags
            self.assertEqual(compare(n.f, sort, how, a, b), [0, int(ANSWERS[sort % 16][standing]), told],
                             (n, sort, how, hex(a), hex(b)))


class Standings(Hand):
    def test_ordinary(self):
        for n in FORMATS:
            rising = [n.infinite | n.minus, n.greatest | n.minus, n.one | n.minus, n.least_normal | n.minus,
                      0, n.least_normal, n.half, n.one, n.one + 1, n.three, n.greatest, n.infinite]
            for how in range(16):
                for j in range(len(rising)):
                    for k in range(len(rising)):
                        standing = LESS if j < k else GREATER if j > k else EQUAL
                        self.stands(n, how, rising[j], rising[k], standing, 0)

    def test_zeros(self):
        for n in FORMATS:
            for a in (0, n.minus):
                for b in (0, n.minus):
                    for how in range(16):
                        self.stands(n, how, a, b, EQUAL, 0)

    def test_small_ones(self):
        for n in FORMATS:
            for how in (0, 1, 2, 3, 8, 11):
                self.stands(n, how, n.least, 0, GREATER, 2)
                self.stands(n, how, n.minus, n.least, LESS, 2)
                self.stands(n, how, n.least | n.minus, n.least, LESS, 2)
                self.stands(n, how, n.least | n.minus, n.greatest_small | n.minus, GREATER, 2)
                self.stands(n, how, n.greatest_small, n.greatest_small, EQUAL, 2)
                self.stands(n, how, n.greatest_small, n.least_normal, LESS, 2)
                self.stands(n, how, n.infinite, n.least, GREATER, 2)
                self.stands(n, how, n.infinite | n.minus, n.least, LESS, 2)

    def test_small_ones_that_count_as_zeros(self):
        for n in (Single, Double):
            for how in (4, 5, 6, 7, 12, 15):
                self.stands(n, how, n.least, 0, EQUAL, 0)
                self.stands(n, how, n.least | n.minus, n.greatest_small, EQUAL, 0)
                self.stands(n, how, n.minus, n.greatest_small | n.minus, EQUAL, 0)
                self.stands(n, how, n.greatest_small, n.least_normal, LESS, 0)
                self.stands(n, how, n.greatest_small, n.one | n.minus, GREATER, 0)

    def test_they_do_not_of_half(self):
        for how in range(16):
            self.stands(Half, how, 1, 0, GREATER, 2)
            self.stands(Half, how, 0x8001, 1, LESS, 2)


class NoNumbers(Hand):
    def test_quiet_ones(self):
        for n in FORMATS:
            for how in range(16):
                for quiet in (n.quiet, n.quiet | n.minus, n.empty):
                    for other in (n.one, 0, n.minus, n.infinite, n.least, n.infinite | n.minus, n.quiet, quiet):
                        # A small one beside a no number tells nothing.
                        self.stands(n, how, quiet, other, NOT, (0, 1))
                        self.stands(n, how, other, quiet, NOT, (0, 1))

    def test_loud_ones(self):
        for n in FORMATS:
            for how in range(16):
                for loud in (n.loud, n.loud | n.minus):
                    for other in (n.one, 0, n.infinite, n.least, n.quiet, loud):
                        self.stands(n, how, loud, other, NOT, 1)
                        self.stands(n, how, other, loud, NOT, 1)


class Sorts(unittest.TestCase):
    def pairs(self, f, seed):
        sampler = Sampler(seed)
        values = edges(f)
        found = [(a, b, sampler.below(16)) for a in values for b in values]
        for k in range(2000):
            a = sampler.float_bits(f)
            b = sampler.pick([sampler.float_bits(f), a, a ^ 1, a ^ 1 << (model.WIDTH[f] - 1)])
            found.append((a, b, sampler.below(16)))
        return found

    def test_s_and_s_plus_16_are_alike(self):
        for f in model.FORMATS:
            for a, b, how in self.pairs(f, 10 + f):
                for s in range(16):
                    self.assertEqual(compare(f, s, how, a, b)[1], compare(f, s + 16, how, a, b)[1])

    def test_s_and_s_plus_4_are_opposites(self):
        for f in model.FORMATS:
            for a, b, how in self.pairs(f, 20 + f):
                for s in (0, 1, 2, 3, 8, 9, 10, 11):
                    for sort in (s, s + 16):
                        one, other = compare(f, sort, how, a, b), compare(f, sort + 4, how, a, b)
                        self.assertEqual((one[1] + other[1], one[2]), (1, other[2]), (f, sort, how, hex(a), hex(b)))

    def test_the_model_says_the_same_of_the_sorts(self):
        for s, answers in ANSWERS.items():
            words = [word for word, bit in zip(("less", "equal", "greater", "not"), answers) if bit == "1"]
            self.assertEqual(set(words), MODEL_SORTS[s])
        self.assertEqual(tuple(sort for sort in ALL_SORTS if is_strict(sort)), STRICT)

    def test_beside_the_model(self):
        for f in model.FORMATS:
            for a, b, how in self.pairs(f, 30 + f):
                first, second = come_in(f, how, a), come_in(f, how, b)
                standing = stand(first, second)
                flags = [asked_flags(strict, first, second) for strict in (False, True)]
                for sort in ALL_SORTS:
                    told = [0, int(standing in MODEL_SORTS[sort % 16]), flags[sort in STRICT]]
                    self.assertEqual(compare(f, sort, how, a, b), told, (f, sort, how, hex(a), hex(b)))
                self.assertEqual(model_compared.compare(f, sort, how, a, b), told)


if __name__ == "__main__":
    unittest.main()
