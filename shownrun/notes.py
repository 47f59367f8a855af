"""The right texts of the language."""

from shownrun.errors import BadProgram, TooMany
from shownrun.grammar import Reading
from shownrun.naming import check_names
from shownrun.signs import signs_of, written_line

_MOST_LINES = 80


def _lines_of(text):
    """The list of the lines of any value; an empty one behind the last line feed is none."""
    if not isinstance(text, str):
        raise BadProgram(0, "form")
    lines = text.split("\n")
    if lines[-1] == "":
        lines.pop()
    if len(lines) > _MOST_LINES:
        raise TooMany("lines", _MOST_LINES)
    return lines


class Notes:
    """A text whose form and names are right, as its bodies and its written lines."""

    def __init__(self, bodies, lines):
        self.bodies = tuple(bodies)
        self._lines = tuple(lines)

    @staticmethod
    def read(text):
        """The Notes of a text."""
        lines = _lines_of(text)
        reading, written = Reading(), []
        for at, line in enumerate(lines):
            signs = signs_of(line)
            if signs:
                reading.read_line(signs, at)
                written.append(written_line(signs))
        if not reading.complete():
            raise BadProgram(len(lines), "end")
        check_names(reading.bodies)
        return Notes(reading.bodies, written)

    def written(self):
        """The written form."""
        return "".join([line + "\n" for line in self._lines])

    @property
    def tells(self):
        return len([deed for deed in self.bodies[0].deeds if deed.verb == "tell"])

    @property
    def functions(self):
        return tuple([body.name for body in self.bodies[1:]])

    def __len__(self):
        return len(self._lines)

    def __eq__(self, other):
        return isinstance(other, Notes) and self._lines == other._lines

    def __repr__(self):
        return f"Notes({len(self._lines)} lines)"
