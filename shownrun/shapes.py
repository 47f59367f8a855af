"""The shapes of values: what is a number, a list, a word, and which worths of a row are its fields."""

# How many of the columns are the first ones, and how many the later ones.
FIRST = 29
LATER = 7
_DIGITS = "0123456789"


def is_whole(value):
    """Whether any value is a number, of any size."""
    # Python counts True and False among the integers; here they are no numbers.
    return isinstance(value, int) and not isinstance(value, bool)


def list_length(value):
    """The length of a list or tuple, None for any other value."""
    return len(value) if isinstance(value, (list, tuple)) else None


def is_word(value, size):
    """Whether any value is a list of just so many numbers."""
    return list_length(value) == size and all([is_whole(item) for item in value])


def are_words(value, count, size):
    """Whether any value is a list of just so many lists of just so many numbers."""
    return list_length(value) == count and all([is_word(item, size) for item in value])


def are_counts(value, count, total):
    """Whether any value is a list of just so many numbers from 0 on with this sum."""
    return is_word(value, count) and all([number >= 0 for number in value]) and sum(value) == total


def worths_of(numbers, p):
    """The numbers of a list, read modulo p, as a tuple."""
    return tuple([number % p for number in numbers])


def words_of(words, p):
    """The words of a list, read modulo p, as a tuple of tuples."""
    return tuple([worths_of(word, p) for word in words])


def with_tuples(value):
    """Any value, with a tuple in the place of each list."""
    if isinstance(value, (list, tuple)):
        return tuple([with_tuples(item) for item in value])
    return value


def numeral_worth(word, most):
    """The number that a string writes without leading zeros, None unless it is one from 0 to most."""
    # A longer string is never read, whatever its digits are.
    if not 1 <= len(word) <= len(str(most)) or not all([digit in _DIGITS for digit in word]):
        return None
    number = int(word)
    return number if str(number) == word and number <= most else None


def row_fields(row):
    """The fourteen fields of a row: its pc, its flags and its a, b, c, imm."""
    return (row[0],) + tuple(row[3:16])
