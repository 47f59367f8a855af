"""The books of talks: writing and reading them."""

from shownrun.draws import MIXING
from shownrun.errors import BadBook, NotWaiting
from shownrun.primes import PRIMES, fits
from shownrun.shapes import FIRST, LATER, is_whole, numeral_worth
from shownrun.talk import Talk


def _program_line(program):
    return " / ".join([f"program {program.frame}"] + program.listing())


def _numbers_line(word, numbers):
    return " ".join([word] + [str(number) for number in numbers])


def _laid_lines(step, value):
    """The lines of what was laid at a step."""
    if step == 0:
        words, counts = value
        return [_numbers_line("word", word) for word in words] + [_numbers_line("counts", counts)]
    if step == 1:
        return [_numbers_line("word", word) for word in value]
    if is_whole(value):
        return [_numbers_line("number", [value])]
    return [_numbers_line("layer", value)]


def book(talk):
    """The book of a talk."""
    if talk.verdict not in (None, "passed", "look"):
        raise NotWaiting("book")
    lines = [f"talk {talk.p} {talk.rows} {talk.looks}", _program_line(talk.program)]
    step = 0
    for deed, value in talk.done_deeds():
        if deed == "lay":
            lines.extend(_laid_lines(step, value))
            step += 1
        else:
            lines.append(_numbers_line(deed, [value]))
    return "".join([line + "\n" for line in lines])


class Pages:
    """The lines of a text that are read one behind another."""

    def __init__(self, text):
        pieces = text.split("\n")
        self._lines = pieces[:-1]
        # Characters behind the last line feed are a line, too, which is always wrong.
        self._rest = pieces[-1] != ""
        self._next = 0

    def has_more(self):
        """Whether there is a further line, a right one or not."""
        return self._next < len(self._lines) or self._rest

    def refuse(self):
        """Tells that the line that was read last is wrong."""
        raise BadBook(self._next - 1)

    def read_line(self):
        """The next line."""
        if self._next == len(self._lines):
            raise BadBook(self._next)
        self._next += 1
        return self._lines[self._next - 1]

    def read_numbers(self, word, count, most):
        """The numbers of the next line, which has this word and just so many numbers from 0 to most."""
        words = self.read_line().split(" ")
        numbers = [numeral_worth(numeral, most) for numeral in words[1:]]
        if words[0] != word or len(numbers) != count or None in numbers:
            self.refuse()
        return numbers


def _read_begin(program, pages):
    """The talk that the first two lines tell."""
    p, rows, looks = pages.read_numbers("talk", 3, PRIMES[-1][0])
    if not fits(p, rows) or looks > Talk.MOST:
        pages.refuse()
    if pages.read_line() != _program_line(program):
        pages.refuse()
    return Talk(program, p=p, rows=rows, looks=looks)


def _read_laid(talk, pages):
    """What the next lines tell that is laid."""
    size, most = 16 * talk.rows, talk.p - 1
    if talk.waits == "tables":
        words = [pages.read_numbers("word", size, most) for _ in range(FIRST)]
        counts = pages.read_numbers("counts", len(talk.program), talk.rows)
        if sum(counts) != talk.rows:
            pages.refuse()
        return words, counts
    if talk.waits == "later":
        return [pages.read_numbers("word", size, most) for _ in range(LATER)]
    if talk.waits == "layer":
        return pages.read_numbers("layer", size >> (len(talk.heard) - MIXING), most)
    return pages.read_numbers("number", 1, most)[0]


def _read_deed(talk, pages):
    """Does what the next lines tell."""
    if talk.waits == "done":
        pages.read_line()
        pages.refuse()
    if talk.waits == "coin":
        talk.coin(pages.read_numbers("coin", 1, talk.p - 1)[0])
    elif talk.waits == "look":
        talk.look(pages.read_numbers("look", 1, 16 * talk.rows - 1)[0])
    else:
        talk.lay(_read_laid(talk, pages))


def read_book(program, text):
    """The talk of a book about a program."""
    if not isinstance(text, str):
        raise BadBook(0)
    pages = Pages(text)
    talk = _read_begin(program, pages)
    while pages.has_more():
        _read_deed(talk, pages)
    return talk
