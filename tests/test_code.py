"""Promises [42], [43], [44]: pieces of letters, and letters of pieces."""

import itertools
import random
import unittest

from keptfiles.code import agree_on, letters_among, letters_of, piece_of, pieces_of
from keptfiles.errors import Settings
from tests.helpers import NO_INTEGERS, check_bad_number, same


def settings_of(shelves, k, e=0, prime=11, f=0):
    return Settings(1, shelves, k, e, f, prime, 9, 1)


# Small and great primes, each k, each e.
MANY = (settings_of(1, 1, 0, 2), settings_of(2, 1, 0, 3), settings_of(3, 3, 0, 5), settings_of(4, 2, 1, 5),
        settings_of(5, 3, 1, 7), settings_of(8, 4, 2), settings_of(8, 4, 1, 999983), settings_of(8, 1, 2, 13),
        settings_of(7, 2, 2, 499979, 1), settings_of(8, 3, 2, 999983))
S52 = settings_of(5, 2, 1, 11)


def plain_piece(letters, number, settings):
    """A piece as [42] tells it, with powers."""
    k = settings.k
    piece = []
    for at in range(0, len(letters), k):
        piece.append(sum(letter * number ** place for place, letter in enumerate(letters[at:at + k])) % settings.prime)
    return tuple(piece)


def pairs_of(letters, settings, numbers=None):
    return tuple((number, plain_piece(letters, number, settings))
                 for number in (numbers or range(1, settings.shelves + 1)))


def some_letters(dice, many, settings):
    return tuple(dice.choice((0, settings.prime - 1, dice.randrange(settings.prime))) for _ in range(many))


def counts(settings):
    """Numbers of letters: none, fewer than k, just k, more."""
    return sorted({0, 1, settings.k - 1, settings.k, settings.k + 1, 2 * settings.k, 3 * settings.k + 1, 20})


class Pieces(unittest.TestCase):
    def test_by_hand(self):
        settings = settings_of(4, 2, 0, 7)
        same(self, piece_of((), 1, settings), ())
        same(self, piece_of((3,), 2, settings), (3,))
        same(self, piece_of((3, 4), 1, settings), (0,))
        same(self, piece_of((3, 4), 2, settings), (4,))
        same(self, piece_of((1, 2, 6, 6, 5), 3, settings), (0, 3, 5))
        same(self, pieces_of((1, 2, 3), settings), ((3, 3), (5, 3), (0, 3), (2, 3)))
        same(self, pieces_of((), settings), ((), (), (), ()))

    def test_each_number_of_letters(self):
        dice = random.Random(1)
        for settings in MANY:
            for count in counts(settings):
                letters = some_letters(dice, count, settings)
                expected = tuple(piece for _, piece in pairs_of(letters, settings))
                same(self, pieces_of(letters, settings), expected)
                same(self, pieces_of(list(letters), settings), expected)
                for number in range(1, settings.shelves + 1):
                    same(self, piece_of(letters, number, settings), expected[number - 1])
                    same(self, piece_of(list(letters), number, settings), expected[number - 1])

    def test_by_names(self):
        same(self, piece_of(settings=S52, number=2, letters=(1, 2)), (5,))
        same(self, pieces_of(settings=S52, letters=(1, 2)), ((3,), (5,), (7,), (9,), (0,)))

    def test_wrong_letters(self):
        for settings in MANY:
            prime = settings.prime
            for letters in (None, 1, "", "1", {}, {1: 1}, b"\x01", True, (prime,), [0, prime], (-1,), (0, -1), [-1],
                            (prime ** 9,), *[(letter,) for letter in NO_INTEGERS], *[[0, letter] for letter in NO_INTEGERS]):
                check_bad_number(self, "letters", letters, pieces_of, letters, settings)
                for number in (1, 0, None, 9):
                    check_bad_number(self, "letters", letters, piece_of, letters, number, settings)

    def test_letters_at_the_edges(self):
        for settings in MANY:
            letters = (0, settings.prime - 1)
            same(self, piece_of(letters, 1, settings), plain_piece(letters, 1, settings))

    def test_wrong_numbers(self):
        for settings in MANY:
            for number in (*NO_INTEGERS, 0, -1, settings.shelves + 1, 10 ** 20):
                for letters in ((), (1,), [0, 1]):
                    check_bad_number(self, "number", number, piece_of, letters, number, settings)

    def test_letters_stay(self):
        letters = [1, 2, 3]
        pieces_of(letters, S52)
        piece_of(letters, 1, S52)
        same(self, letters, [1, 2, 3])


class Letters(unittest.TestCase):
    def test_pairs_in_any_order(self):
        dice = random.Random(2)
        for settings in MANY:
            for count in counts(settings):
                letters = some_letters(dice, count, settings)
                for numbers in itertools.combinations(range(1, settings.shelves + 1), settings.k):
                    pairs = list(pairs_of(letters, settings, numbers))
                    dice.shuffle(pairs)
                    same(self, letters_of(pairs, count, settings), letters)
                    same(self, letters_of(tuple(pairs), count, settings), letters)
                    self.assertIs(agree_on(pairs, count, settings), True)

    def test_more_pairs_than_k(self):
        dice = random.Random(3)
        for settings in MANY:
            for count in counts(settings):
                letters = some_letters(dice, count, settings)
                pairs = list(pairs_of(letters, settings))
                for _ in range(5):
                    dice.shuffle(pairs)
                    for many in range(settings.k, len(pairs) + 1):
                        same(self, letters_of(pairs[:many], count, settings), letters)
                        self.assertIs(agree_on(tuple(pairs[:many]), count, settings), True)

    def test_by_names(self):
        pairs = pairs_of((1, 2, 3), S52)
        same(self, letters_of(settings=S52, count=3, pieces=pairs), (1, 2, 3))
        same(self, letters_among(settings=S52, count=3, pieces=pairs), (1, 2, 3))
        same(self, agree_on(settings=S52, count=3, pieces=pairs), True)

    def test_the_pairs_with_the_least_numbers_tell(self):
        right, wrong = (1, 2, 3), (4, 5, 6)
        for order in itertools.permutations((1, 2, 4, 5)):
            pairs = [(number, plain_piece(right if number < 3 else wrong, number, S52)) for number in order]
            same(self, letters_of(pairs, 3, S52), right)
            same(self, agree_on(pairs, 3, S52), False)

    def test_letters_of_any_pieces(self):
        # The pieces (1,) and (2,) of the numbers 1 and 2 are those of the letters (0, 1).
        same(self, letters_of(((1, (1,)), (2, (2,))), 2, S52), (0, 1))
        # What stands in the place that fills up the group is not told, but no letters have such pieces.
        same(self, letters_of(((1, (1,)), (2, (2,))), 1, S52), (0,))
        same(self, agree_on(((1, (1,)), (2, (2,))), 2, S52), True)
        same(self, agree_on(((1, (1,)), (2, (2,))), 1, S52), False)
        same(self, agree_on(((1, (1,)), (2, (1,))), 1, S52), True)

    def test_fewer_than_k_never_tell_a_full_group(self):
        settings = settings_of(4, 3, 0, 5)
        for numbers in itertools.combinations(range(1, 5), 2):
            seen = {}
            for letters in itertools.product(range(5), repeat=3):
                seen.setdefault(pairs_of(letters, settings, numbers), []).append(letters)
            self.assertTrue(all(len(rows) == 5 for rows in seen.values()))

    def test_disagreeing_pairs(self):
        dice = random.Random(4)
        for settings in MANY:
            if settings.shelves > settings.k:
                letters = some_letters(dice, 2 * settings.k + 1, settings)
                pairs = pairs_of(letters, settings)
                for at in range(len(pairs)):
                    number, piece = pairs[at]
                    other = (number, ((piece[0] + 1) % settings.prime,) + piece[1:])
                    spoilt = pairs[:at] + (other,) + pairs[at + 1:]
                    self.assertIs(agree_on(spoilt, len(letters), settings), False)
                    self.assertEqual(letters_of(spoilt, len(letters), settings) == letters, at >= settings.k)

    def test_wrong_counts(self):
        pairs = pairs_of((1, 2, 3), S52)
        for function in (letters_of, letters_among, agree_on):
            for count in (*NO_INTEGERS, -1, -10 ** 9):
                for pieces in (pairs, (), None, [1]):
                    check_bad_number(self, "count", count, function, pieces, count, S52)

    def no_pairs(self):
        """What is no list of pairs of unlike numbers and tuples."""
        first, second, third = pairs_of((1, 2, 3), S52, (1, 2, 3))
        yield from (None, 1, "", "ab", {}, {1: (1, 1), 2: (2, 2)}, True)
        for item in (None, 1, "ab", (), (3,), (3, (1, 1), 1), list(third), {}, (3, [1, 1]), (3, None), (3, 1), (3, "ab")):
            yield from ((first, second, item), [item, first, second])
        for number in (*NO_INTEGERS, 0, -1, 6, 10 ** 20, 1, 2):
            yield from ((first, second, (number, third[1])), [(number, third[1]), second, first])
        yield (first, second, first)
        yield (first, second, third, third)

    def test_wrong_pairs(self):
        for pieces in self.no_pairs():
            for function in (letters_of, letters_among, agree_on):
                check_bad_number(self, "pieces", pieces, function, pieces, 3, S52)

    def test_fewer_than_k(self):
        pairs = pairs_of((1, 2, 3), S52)
        for function in (letters_of, agree_on):
            for pieces in ((), [], pairs[:1], list(pairs[3:4])):
                check_bad_number(self, "pieces", pieces, function, pieces, 3, S52)
            for pieces in ((), ((1, ()),)):
                check_bad_number(self, "pieces", pieces, function, pieces, 0, S52)

    def test_pieces_of_another_length_or_of_no_numbers(self):
        first, second, third = pairs_of((1, 2, 3), S52, (1, 2, 3))
        for function in (letters_of, agree_on):
            for piece in ((), (1,), (1, 2, 3), (11, 0), (0, -1), (0, 10 ** 20), *[(0, item) for item in NO_INTEGERS]):
                for pieces in ((first, second, (3, piece)), [(3, piece), second, first], ((1, piece), second)):
                    check_bad_number(self, "pieces", pieces, function, pieces, 3, S52)
            for count in (0, 1, 2, 5, 6, 10 ** 30):
                pieces = (first, second, third)
                check_bad_number(self, "pieces", pieces, function, pieces, count, S52)

    def test_no_letters(self):
        for settings in MANY:
            pairs = [(number, ()) for number in range(1, settings.shelves + 1)]
            same(self, letters_of(pairs, 0, settings), ())
            same(self, letters_among(pairs, 0, settings), ())
            same(self, agree_on(pairs, 0, settings), True)

    def test_pieces_stay(self):
        pairs = list(pairs_of((1, 2, 3), S52))[::-1]
        before = list(pairs)
        letters_of(pairs, 3, S52)
        letters_among(pairs, 3, S52)
        agree_on(pairs, 3, S52)
        same(self, pairs, before)


def plain_told(choice, count, settings):
    """The letters that k pairs tell, by trying all."""
    letters = []
    for values in zip(*(piece for _, piece in choice)):
        for group in itertools.product(range(settings.prime), repeat=settings.k):
            if all(plain_piece(group, number, settings) == (value,) for (number, _), value in zip(choice, values)):
                letters.extend(group)
    return tuple(letters[:count])


def plain_among(pairs, count, settings):
    """letters_among by its words: choices of k pairs, their letters, and how many pairs are pieces of them."""
    groups = -(-count // settings.k)
    fits = [pair for pair in sorted(pairs) if len(pair[1]) == groups
            and all(0 <= value < settings.prime for value in pair[1])]
    for choice in itertools.combinations(fits, settings.k):
        letters = plain_told(choice, count, settings)
        if sum(piece == plain_piece(letters, number, settings) for number, piece in pairs) >= settings.k + settings.e:
            return letters
    return None


class Among(unittest.TestCase):
    def check_spoilt(self, letters, pairs, wrong, settings, dice):
        """With so many wrong pairs among these."""
        pairs = list(pairs)
        for at in dice.sample(range(len(pairs)), wrong):
            number, piece = pairs[at]
            prime = settings.prime
            others = [piece + (0,), piece[:-1], (prime,) * len(piece), (-1,) + piece[1:], ()]
            others += [tuple((value + 1) % prime for value in piece), piece[:-1] + ((piece[-1] + 1) % prime,)]
            pairs[at] = (number, dice.choice([other for other in others if other != piece]))
        dice.shuffle(pairs)
        same(self, letters_among(pairs, len(letters), settings), letters)

    def test_up_to_e_wrong_pairs(self):
        dice = random.Random(5)
        for settings in MANY:
            for count in counts(settings)[1:]:
                for many in range(settings.k + 2 * settings.e, settings.shelves + 1):
                    for wrong in range(settings.e + 1):
                        letters = some_letters(dice, count, settings)
                        pairs = dice.sample(pairs_of(letters, settings), many)
                        self.check_spoilt(letters, pairs, wrong, settings, dice)

    def test_fewer_pairs_with_fewer_wrong_ones(self):
        dice = random.Random(6)
        for settings in MANY:
            for wrong in range(settings.e + 1):
                letters = some_letters(dice, 2 * settings.k + 1, settings)
                pairs = dice.sample(pairs_of(letters, settings), settings.k + settings.e + wrong)
                self.check_spoilt(letters, pairs, wrong, settings, dice)

    def test_too_few(self):
        for settings in MANY:
            letters = tuple(range(2)) * settings.k
            pairs = pairs_of(letters, settings)
            for many in range(settings.k + settings.e):
                for pieces in (pairs[:many], list(pairs[:many][::-1])):
                    self.assertIsNone(letters_among(pieces, len(letters), settings))
            same(self, letters_among(pairs[:settings.k + settings.e], len(letters), settings), letters)

    def test_too_few_pieces_of_no_letters(self):
        for settings in MANY:
            pairs = [(number, ()) for number in range(1, settings.shelves + 1)]
            enough = settings.k + settings.e
            self.assertIsNone(letters_among(pairs[:enough - 1], 0, settings))
            same(self, letters_among(pairs[:enough], 0, settings), ())
            same(self, letters_among(pairs[:enough - 1], 1, settings), None)

    def test_pieces_of_no_letters(self):
        pairs = pairs_of((1, 2, 3), S52)
        for piece in ((), (1,), (1, 2, 3), (11, 0), (0, -1), (0, 10 ** 20), pairs[2][1] + (0,),
                      (pairs[2][1][0] + 11, pairs[2][1][1]), (pairs[2][1][0] - 11, pairs[2][1][1])):
            same(self, letters_among(((3, piece),) + pairs[:2] + pairs[3:], 3, S52), (1, 2, 3))
            same(self, letters_among(((3, piece),) + pairs[:2] + pairs[4:], 3, S52), (1, 2, 3))
            self.assertIsNone(letters_among(((3, piece),) + pairs[:2], 3, S52))

    def test_another_count(self):
        pairs = pairs_of((1, 2, 3, 4), S52)
        for count in (0, 1, 2, 5, 6, 10 ** 30):
            self.assertIsNone(letters_among(pairs, count, S52))
        self.assertIsNone(letters_among(pairs, 3, S52))
        same(self, letters_among(pairs_of((1, 2, 3, 0), S52), 3, S52), (1, 2, 3))

    def test_what_fills_up_the_last_group(self):
        # The pairs 1 and 2 tell (4, 0), as the letter 4 is filled up.
        pairs = ((1, (4,)), (2, (4,)), (3, (4,)), (4, (9,)), (5, (0,)))
        same(self, letters_among(pairs, 1, S52), (4,))
        # The pairs 1 and 2 tell (4, 5) and so the letter 4, of which they are no pieces, but the other three are.
        pairs = ((1, (9,)), (2, (3,)), (3, (4,)), (4, (4,)), (5, (4,)))
        same(self, letters_among(pairs, 1, S52), (4,))
        same(self, plain_among(pairs, 1, S52), (4,))

    def test_several_would_do(self):
        settings = settings_of(8, 2, 1, 11)
        first, second = (1, 2, 3), (4, 5, 6)
        for numbers in itertools.combinations(range(1, 9), 4):
            pairs = [(number, plain_piece(first if number in numbers else second, number, settings))
                     for number in range(1, 9)]
            expected = plain_among(pairs, 3, settings)
            for pieces in (pairs, pairs[::-1], tuple(pairs[4:] + pairs[:4])):
                same(self, letters_among(pieces, 3, settings), expected)

    def test_against_its_words(self):
        dice = random.Random(7)
        found = {}
        for settings in (settings_of(4, 2, 0, 5), settings_of(4, 2, 1, 5), settings_of(5, 1, 2, 7), settings_of(6, 3, 1, 7),
                         settings_of(4, 4, 0, 5), settings_of(2, 1, 0, 3), settings_of(3, 2, 0, 5)):
            for _ in range(150):
                count = dice.randrange(5)
                groups = -(-count // settings.k)
                base = some_letters(dice, count, settings)
                pairs = [pair for pair in pairs_of(base, settings) if dice.randrange(6)]
                for at in range(len(pairs)):
                    if dice.randrange(3) == 0:
                        many = dice.choice((groups, groups, groups + 1, max(0, groups - 1)))
                        pairs[at] = (pairs[at][0], tuple(dice.randrange(-1, settings.prime + 1) for _ in range(many)))
                dice.shuffle(pairs)
                expected = plain_among(pairs, count, settings)
                same(self, letters_among(pairs, count, settings), expected)
                kind = "none" if expected is None else "base" if expected == base else "other"
                found[kind] = found.get(kind, 0) + 1
        self.assertTrue(all(found[kind] > 20 for kind in ("none", "base", "other")), found)

    def test_long_letters(self):
        dice = random.Random(8)
        settings = settings_of(8, 4, 1, 999983)
        letters = tuple(dice.randrange(999983) for _ in range(4000))
        pairs = list(pairs_of(letters, settings))
        pairs[0] = (1, pairs[0][1][:-1] + (5,))
        same(self, letters_among(pairs, 4000, settings), letters)
        same(self, letters_of(pairs[1:5], 4000, settings), letters)


if __name__ == "__main__":
    unittest.main()
