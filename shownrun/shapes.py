"""The shapes of values: what is a number, a list, a word, and which worths of a row are its fields."""


def is_whole(value):
    """Whether any value is a number, of any size."""
    # Python counts True and False among the integers; here they are no numbers.
    return isinstance(value, int) and not isinstance(value, bool)


def list_length(value):
    """The length of a list or tuple, None for any other value."""
    return len(value) if isinstance(value, (list, tuple)) else None


def is_word(value, size):
    """Whether any value is a list of just so many numbers."""
    return list_length(value) == size and all([is_whole(item) for item in value])


def are_words(value, count, size):
    """Whether any value is a list of just so many lists of just so many numbers."""
    return list_length(value) == count and all([is_word(item, size) for item in value])


def worths_of(numbers, p):
    """The numbers of a list, read modulo p, as a tuple."""
    return tuple([number % p for number in numbers])


def row_fields(row):
    """The fourteen fields of a row: its pc, its flags and its a, b, c, imm."""
    return (row[0],) + tuple(row[3:16])
