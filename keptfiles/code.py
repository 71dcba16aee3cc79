"""The code: letters of a write are cut into pieces, and some pieces tell the letters again.

Letters are parted into groups of k, the coefficients of a polynomial; the piece with the number x has
the value of each polynomial at x, modulo the prime.
"""

from itertools import combinations

from keptfiles.errors import BadNumber, is_from, is_within, need_within


def are_numbers(values, prime):
    """Whether all values are numbers below the prime."""
    return all([is_within(value, 0, prime - 1) for value in values])


def need_letters(letters, settings):
    """Raises BadNumber if letters are none of a write."""
    if not isinstance(letters, (list, tuple)) or not are_numbers(letters, settings.prime):
        raise BadNumber("letters", letters)


def groups_of(letters, k):
    """The groups of letters, the last one filled up with 0."""
    filled = list(letters) + [0] * (-len(letters) % k)
    return [filled[at:at + k] for at in range(0, len(filled), k)]


def value_at(group, number, prime):
    """The value at a number of the polynomial with these coefficients, modulo the prime."""
    value = 0
    for letter in reversed(group):
        value = (value * number + letter) % prime
    return value


def piece_among(groups, number, prime):
    """The piece with this number."""
    return tuple([value_at(group, number, prime) for group in groups])


def piece_of(letters, number, settings):
    """The piece of these letters with this number."""
    need_letters(letters, settings)
    need_within("number", number, 1, settings.shelves)
    return piece_among(groups_of(letters, settings.k), number, settings.prime)


def pieces_of(letters, settings):
    """The pieces of these letters, from number 1 to that of the last shelf."""
    need_letters(letters, settings)
    groups = groups_of(letters, settings.k)
    return tuple([piece_among(groups, number, settings.prime) for number in range(1, settings.shelves + 1)])


def inverse_of(number, prime):
    """What makes 1 when it is multiplied by number, modulo the prime; number is no multiple of the prime."""
    rest, left = prime, number % prime
    inverse, times = 0, 1
    while left != 0:
        many = rest // left
        rest, left = left, rest - many * left
        inverse, times = times, inverse - many * times
    return inverse % prime


def base_of(number, others, prime):
    """The coefficients of the polynomial that is 1 at number and 0 at the other numbers."""
    row = [1]
    scale = 1
    for other in others:
        row = [(low - other * high) % prime for low, high in zip([0] + row, row + [0])]
        scale = scale * (number - other) % prime
    inverse = inverse_of(scale, prime)
    return [part * inverse % prime for part in row]


def told_by(pairs, count, prime):
    """The letters that as many pairs (number, piece) as a group has letters tell."""
    numbers = [number for number, _ in pairs]
    bases = [base_of(number, [other for other in numbers if other != number], prime) for number in numbers]
    # The letter at a place of each group is a sum of the values, each times what its base has at this place.
    factors = list(zip(*bases))
    pieces = [piece for _, piece in pairs]
    letters = []
    for values in zip(*pieces):
        letters.extend([sum([a * b for a, b in zip(row, values)]) % prime for row in factors])
    return tuple(letters[:count])


def are_pairs(pieces, settings):
    """Whether pieces is a list of pairs of unlike numbers of shelves and tuples."""
    if not isinstance(pieces, (list, tuple)):
        return False
    seen = {}
    for pair in pieces:
        if not isinstance(pair, tuple) or len(pair) != 2 or not isinstance(pair[1], tuple):
            return False
        if not is_within(pair[0], 1, settings.shelves) or pair[0] in seen:
            return False
        seen[pair[0]] = True
    return True


def is_piece(piece, count, settings):
    """Whether a tuple has a number below the prime for each group of so many letters."""
    many = (count + settings.k - 1) // settings.k
    return len(piece) == many and are_numbers(piece, settings.prime)


def need_pieces(pieces, count, settings):
    """Raises BadNumber if count is no number, or pieces are none that tell so many letters."""
    need_pairs(pieces, count, settings)
    if len(pieces) < settings.k or not all([is_piece(piece, count, settings) for _, piece in pieces]):
        raise BadNumber("pieces", pieces)


def need_pairs(pieces, count, settings):
    """Raises BadNumber if count is no number, or pieces are no pairs."""
    if not is_from(count, 0):
        raise BadNumber("count", count)
    if not are_pairs(pieces, settings):
        raise BadNumber("pieces", pieces)


def by_number(pieces):
    """The pairs, ascending by their numbers."""
    return sorted(pieces, key=lambda pair: pair[0])


def pairs_that_fit(pairs, letters, settings):
    """How many of the pairs are pieces of these letters."""
    groups = groups_of(letters, settings.k)
    return len([1 for number, piece in pairs if piece == piece_among(groups, number, settings.prime)])


def letters_of(pieces, count, settings):
    """The letters that the k pairs with the least numbers tell."""
    need_pieces(pieces, count, settings)
    return told_by(by_number(pieces)[:settings.k], count, settings.prime)


def first_that_fit(pairs, count, k, settings):
    """The letters that the first choice of k pairs tells of which enough of the pairs are pieces, or None."""
    for choice in combinations(pairs, k):
        letters = told_by(choice, count, settings.prime)
        if pairs_that_fit(pairs, letters, settings) >= k + settings.e:
            return letters
    return None


def letters_among(pieces, count, settings):
    """The letters of which enough of the pairs, some of them perhaps wrong, are pieces, or None."""
    need_pairs(pieces, count, settings)
    sound = [pair for pair in by_number(pieces) if is_piece(pair[1], count, settings)]
    if len(sound) < settings.k + settings.e:
        return None
    return first_that_fit(sound, count, settings.k, settings)


def agree_on(pieces, count, settings):
    """Whether all pairs are pieces of the letters that letters_of tells."""
    letters = letters_of(pieces, count, settings)
    return pairs_that_fit(pieces, letters, settings) == len(pieces)
