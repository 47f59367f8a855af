"""The signs of a line of a text: splitting a line into them, telling them, and writing them."""

_WORDS = ("main", "end", "fun", "ask", "row", "claim", "if", "else", "tell", "give")
_LETTERS = "abcdefghijklmnopqrstuvwxyz"
_DIGITS = "0123456789"
# Letters and digits that stand together are one sign, also those that make no right one.
_JOINED = "abcdefghijklmnopqrstuvwxyzABCDEFGHIJKLMNOPQRSTUVWXYZ0123456789"
_MOST_LETTERS = 8
_MOST_DIGITS = 9


def _length(line, at):
    """The length of the sign that begins there."""
    if line[at:at + 2] == "==":
        return 2
    end = at
    while end < len(line) and line[end] in _JOINED:
        end += 1
    return max(end - at, 1)


def signs_of(line):
    """The list of the signs of a line; a character that no sign has stands as one, which is never right."""
    signs, at = [], 0
    while at < len(line):
        length = _length(line, at)
        if line[at] != " ":
            signs.append(line[at:at + length])
        at += length
    return signs


def is_name(sign):
    """Whether a sign is a name."""
    if not 1 <= len(sign) <= _MOST_LETTERS or sign in _WORDS:
        return False
    return all([letter in _LETTERS for letter in sign])


def is_numeral(sign):
    """Whether a sign is a number of a text."""
    if not 1 <= len(sign) <= _MOST_DIGITS or not all([digit in _DIGITS for digit in sign]):
        return False
    return sign == "0" or sign[0] != "0"


def _is_spaced(ahead, sign):
    """Whether a space stands between two signs in the written form."""
    if sign in ("[", ")", "]", ",") or ahead in ("(", "["):
        return False
    return sign != "(" or not is_name(ahead)


def written_line(signs):
    """The written form of a line, for one sign or more."""
    written = [signs[0]]
    for ahead, sign in zip(signs, signs[1:]):
        written.append(" " + sign if _is_spaced(ahead, sign) else sign)
    return "".join(written)
