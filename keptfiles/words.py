"""Lines, words, and what single words of stories, files and promises mean."""

from keptfiles.errors import BadText, is_name

DIGITS = "0123456789"
MOST_DIGITS = 6
MOST_NAMES = 6


def need_text(text):
    """Raises BadText(0, 0) for a value that is no string."""
    if not isinstance(text, str):
        raise BadText(0, 0)


def lines_of(text):
    """The lines of a text; each ends at a line feed, the last one perhaps without."""
    lines = text.split("\n")
    if lines[-1] == "":
        lines.pop()
    return lines


def text_of(lines):
    """The text of lines, each with a line feed."""
    return "".join([line + "\n" for line in lines])


def words_of(line):
    """The words of a line, cut at each single space."""
    return line.split(" ")


def number_in(word):
    """The number that a word of one to six digits tells, otherwise None."""
    if word == "" or len(word) > MOST_DIGITS or not all([sign in DIGITS for sign in word]):
        return None
    return int(word)


def numbers_in(word):
    """The tuple of the numbers in a word, "-" for none of them; None for a word that is wrong."""
    if word == "-":
        return ()
    numbers = tuple([number_in(part) for part in word.split(",")])
    return None if None in numbers else numbers


def lot_in(word):
    """As numbers_in, but the numbers ascend, each once."""
    numbers = numbers_in(word)
    if numbers is None or any([low >= high for low, high in zip(numbers, numbers[1:])]):
        return None
    return numbers


def path_in(word):
    """The PATH that a PLACE tells, None for a word that is none."""
    if word == "/":
        return ()
    names = tuple(word.split("/"))
    if len(names) > MOST_NAMES or not all([is_name(name) for name in names]):
        return None
    return names


def value_of(kind, word):
    """What a word of this kind tells, None if it is wrong."""
    if kind == "name":
        return word if is_name(word) else None
    if kind == "number":
        return number_in(word)
    if kind == "path":
        return path_in(word)
    if kind == "lot":
        return lot_in(word)
    return numbers_in(word)


def values_of(words, first, kinds, line):
    """What the words from the place first on tell, one of each kind.

    BadText(line, column) for the first word that is wrong, or missing, or too much; columns count from 1.
    """
    values = []
    for at, kind in enumerate(kinds, first):
        value = value_of(kind, words[at]) if at < len(words) else None
        if value is None:
            raise BadText(line, at + 1)
        values.append(value)
    if len(words) > first + len(kinds):
        raise BadText(line, first + len(kinds) + 1)
    return tuple(values)
