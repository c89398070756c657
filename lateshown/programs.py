"""Programs: the deeds that write lines to streams and flush these."""

from lateshown.errors import BadText, NoLine, NoPlace
from lateshown.plain import is_number, is_pair, tupled

LETTERS = "abcdefghijklmnopqrstuvwxyz"
WRITE = "write"
FLUSH = "flush"


def is_name(thing):
    """Whether thing is a NAME: a string of 1 to 8 letters a to z."""
    if not isinstance(thing, str) or not 1 <= len(thing) <= 8:
        return False
    return all([letter in LETTERS for letter in thing])


def is_deed(thing):
    """Whether thing is a DEED: a pair (word, stream)."""
    return is_pair(thing) and thing[0] in (WRITE, FLUSH) and is_name(thing[1])


def is_line(thing):
    """Whether thing is a LINE: a pair (stream, number), the number from 1."""
    return is_pair(thing) and is_name(thing[0]) and is_number(thing[1]) and thing[1] >= 1


def numbered(writes):
    """The tuple of the LINEs of these WRITES, in their order."""
    many = {}
    lines = []
    for stream in writes:
        many[stream] = many.get(stream, 0) + 1
        lines.append((stream, many[stream]))
    return tuple(lines)


def deed_text(deed):
    """The text of a DEED within that of a Program."""
    word, stream = deed
    return "!" + stream if word == FLUSH else stream


def deed_in(text):
    """The DEED with this text; raises BadText() if there is none."""
    stream = text.removeprefix("!")
    if not is_name(stream):
        raise BadText()
    return (FLUSH if text.startswith("!") else WRITE, stream)


class Program:
    """DEEDs that are done one after another; a Program never changes."""

    def __init__(self, deeds=()):
        self._deeds = tupled(deeds)
        self._writes = tuple([stream for word, stream in self._deeds if word == WRITE])
        self._lines = numbered(self._writes)

    @property
    def deeds(self):
        """The tuple of its DEEDs."""
        return self._deeds

    @property
    def lines(self):
        """The tuple of its LINEs, in the order in which they are written."""
        return self._lines

    @property
    def writes(self):
        """The tuple of the streams of its LINEs, in the same order."""
        return self._writes

    @property
    def streams(self):
        """The ascending tuple of the streams to which a line is written."""
        return tuple(sorted(set(self._writes)))

    @property
    def text(self):
        """The texts of its DEEDs with blanks between; - without DEEDs."""
        if not self._deeds:
            return "-"
        return " ".join([deed_text(deed) for deed in self._deeds])

    @staticmethod
    def of(text):
        """The Program with this text; raises BadText() if there is none."""
        if text == "-":
            return Program()
        return Program([deed_in(word) for word in text.split(" ")])

    def __len__(self):
        return len(self._deeds)

    def __getitem__(self, place):
        if place not in range(len(self._deeds)):
            raise NoPlace(place)
        return self._deeds[place]

    def __iter__(self):
        raise TypeError("a Program is not to be gone through")

    def __contains__(self, line):
        asked = tupled(line)
        # True is equal to 1, so that the LINEs alone would not refuse it.
        return is_line(asked) and asked in self._lines

    def __eq__(self, other):
        return isinstance(other, Program) and self._deeds == other._deeds

    def __add__(self, other):
        return Program(self._deeds + other.deeds)

    def __rshift__(self, deed):
        return Program(self._deeds + (deed,))


def how_many_lines(program, stream):
    """How many lines are written to this stream."""
    return program.writes.count(stream)


def written_at(program, line):
    """The place of the DEED that writes the LINE; raises NoLine(line)."""
    if line not in program:
        raise NoLine(line)
    stream, number = line
    places = [place for place, deed in enumerate(program.deeds) if deed == (WRITE, stream)]
    return places[number - 1]


def flushed_at(program, line):
    """The place of the first flush behind the LINE, None if there is none; raises NoLine(line)."""
    for place in range(written_at(program, line), len(program)):
        if program[place] == (FLUSH, line[0]):
            return place
    return None


def check_place(place, last):
    """Raises NoPlace(place) if the place is not one from 0 to the last one."""
    if place not in range(last + 1):
        raise NoPlace(place)


def counts_ahead(program, place):
    """A pair of dicts: of each stream, how many lines are written ahead of the place, and out for sure."""
    check_place(place, len(program))
    written = {}
    out = {}
    for word, stream in program.deeds[:place]:
        if word == WRITE:
            written[stream] = written.get(stream, 0) + 1
        else:
            out[stream] = written.get(stream, 0)
    return written, out


def counted(many):
    """The ascending tuple of the items of a dict of numbers, without those of none."""
    return tuple(sorted([(stream, number) for stream, number in many.items() if number > 0]))


def written_by(program, place):
    """How many lines of each stream are written ahead of the place; raises NoPlace(place)."""
    written, _ = counts_ahead(program, place)
    return counted(written)


def out_by(program, place):
    """How many lines of each stream are surely out ahead of the place; raises NoPlace(place)."""
    _, out = counts_ahead(program, place)
    return counted(out)


def may_hold(program, place, stream):
    """The most lines that the stream can hold just ahead of the place; raises NoPlace(place)."""
    written, out = counts_ahead(program, place)
    return written.get(stream, 0) - out.get(stream, 0)


def with_deed(program, place, deed):
    """The Program with this DEED ahead of the one at the place; raises NoPlace(place)."""
    check_place(place, len(program))
    return Program(program.deeds[:place] + (deed,) + program.deeds[place:])


def without_deed(program, place):
    """The Program without the DEED at the place; raises NoPlace(place)."""
    check_place(place, len(program) - 1)
    return Program(program.deeds[:place] + program.deeds[place + 1:])
