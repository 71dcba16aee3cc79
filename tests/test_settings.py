"""Promises [3], [5], [6]: settings and the names of machines."""

import unittest

from keptfiles.errors import Settings, server_names, shelf_names
from tests.helpers import NO_INTEGERS, check_bad_number, same

ORDER = ("servers", "shelves", "k", "e", "f", "prime", "size", "width")
GOOD = {"servers": 3, "shelves": 5, "k": 2, "e": 1, "f": 1, "prime": 7, "size": 9, "width": 1}
# The least number, the greatest one, and one beyond on each side; the rest of GOOD is made to fit.
BORDERS = {"servers": (1, 7, 0, 8), "shelves": (1, 8, 0, 9), "k": (1, 4, 0, 5), "e": (0, 2, -1, 3),
           "f": (0, 3, -1, 4), "size": (9, 4000, 8, 4001), "width": (1, 16, 0, 17)}
ROOMY = {"servers": 1, "shelves": 8, "k": 1, "e": 0, "f": 0, "prime": 11, "size": 100, "width": 4}


def made(**more):
    return Settings(**{**GOOD, **more})


def is_prime(number):
    return number > 1 and all(number % divisor for divisor in range(2, number))


class Creation(unittest.TestCase):
    def test_attributes(self):
        settings = Settings(3, 8, 2, 1, 2, 10007, 300, 16)
        self.assertEqual([getattr(settings, name) for name in ORDER], [3, 8, 2, 1, 2, 10007, 300, 16])
        self.assertEqual(settings.need, 6)

    def test_by_names(self):
        settings = made()
        self.assertEqual({name: getattr(settings, name) for name in ORDER}, GOOD)

    def test_need(self):
        for k, e, f in ((1, 0, 0), (4, 0, 0), (1, 2, 0), (1, 0, 3), (1, 2, 3), (4, 2, 0), (3, 1, 3)):
            settings = Settings(1, 8, k, e, f, 11, 9, 1)
            same(self, settings.need, k + 2 * e + f)

    def test_borders(self):
        for what, (least, most, below, above) in BORDERS.items():
            for number in (least, most):
                numbers = {**ROOMY, what: number}
                same(self, getattr(Settings(**numbers), what), number)
            for number in (below, above, -10 ** 30, 10 ** 30):
                check_bad_number(self, what, number, Settings, **{**ROOMY, what: number})

    def test_each_number_in_range(self):
        for number in range(-1, 20):
            good = {"servers": (1, 3, 5, 7), "shelves": range(1, 9), "k": range(1, 5), "e": range(3),
                    "f": range(4), "width": range(1, 17)}
            for what, numbers in good.items():
                if number in numbers:
                    self.assertEqual(getattr(Settings(**{**ROOMY, what: number}), what), number)
                else:
                    check_bad_number(self, what, number, Settings, **{**ROOMY, what: number})

    def test_no_integers(self):
        for what in ORDER:
            for number in NO_INTEGERS:
                check_bad_number(self, what, number, Settings, **{**ROOMY, what: number})

    def test_the_first_of_two_wrong_ones(self):
        for number in (None, 10 ** 9):
            for at, first in enumerate(ORDER):
                for second in ORDER[at + 1:]:
                    check_bad_number(self, first, number, Settings, **{**ROOMY, first: number, second: number})

    def test_the_sum_stands_ahead_of_what_follows(self):
        for more in ({"prime": 4}, {"size": 8}, {"width": 0}):
            check_bad_number(self, "f", 3, made, f=3, **more)
        check_bad_number(self, "e", 3, made, e=3, f=3)

    def test_sum_just_at_shelves(self):
        for shelves in range(1, 9):
            for k in range(1, 5):
                for e in range(3):
                    for f in range(4):
                        numbers = {**ROOMY, "shelves": shelves, "k": k, "e": e, "f": f}
                        if k + 2 * e + f <= shelves:
                            self.assertEqual(Settings(**numbers).need, k + 2 * e + f)
                        else:
                            check_bad_number(self, "f", f, Settings, **numbers)


class Primes(unittest.TestCase):
    def test_small_ones(self):
        for shelves in range(1, 9):
            for prime in range(-3, 60):
                numbers = {**ROOMY, "shelves": shelves, "prime": prime}
                if is_prime(prime) and prime > shelves:
                    self.assertEqual(Settings(**numbers).prime, prime)
                else:
                    check_bad_number(self, "prime", prime, Settings, **numbers)

    def test_large_ones(self):
        self.assertEqual(made(prime=999983).prime, 999983)
        self.assertEqual(made(prime=997 + 12).prime, 1009)
        for prime in (999999, 10 ** 6, 1000003, 997 * 997, 991 * 997, 2 ** 89 - 1, -7):
            check_bad_number(self, "prime", prime, made, prime=prime)


class Names(unittest.TestCase):
    def test_servers(self):
        for servers in (1, 3, 5, 7):
            names = ("b1", "b2", "b3", "b4", "b5", "b6", "b7")[:servers]
            same(self, server_names(Settings(**{**ROOMY, "servers": servers})), names)

    def test_shelves(self):
        for shelves in range(1, 9):
            names = ("s1", "s2", "s3", "s4", "s5", "s6", "s7", "s8")[:shelves]
            same(self, shelf_names(Settings(**{**ROOMY, "shelves": shelves})), names)


if __name__ == "__main__":
    unittest.main()
