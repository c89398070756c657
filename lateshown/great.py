"""Great Programs: many lines at once, exactly, and none of them gone through by itself."""

from lateshown.errors import NoLine
from lateshown.plain import tupled
from lateshown.programs import FLUSH, WRITE, counted


def is_write(deed, stream):
    """Whether the deed writes to this stream."""
    return deed[0] == WRITE and deed[1] == stream


def how_many_in(deeds, stream):
    """How many LINEs these deeds write to the stream."""
    return sum([deed[2] for deed in deeds if is_write(deed, stream)])


def flushes_in(great, stream):
    """The ascending list of the places of the flushes of the stream."""
    return [place for place, deed in enumerate(great) if deed[0] == FLUSH and deed[1] == stream]


def deed_of(great, line):
    """The place of the deed that writes the LINE; raises NoLine(line)."""
    stream, number = line
    if not 1 <= number <= how_many_in(great, stream):
        raise NoLine(line)
    # The last deed ahead of which fewer lines are written.
    return [place for place in range(len(great)) if how_many_in(great[:place], stream) < number][-1]


def lines_of(great):
    """The ascending tuple of the pairs (stream, how many LINEs)."""
    return counted({deed[1]: how_many_in(great, deed[1]) for deed in great})


def ahead_of(great, line, stream):
    """How many LINEs of the stream are surely ahead of the LINE; raises NoLine(line)."""
    written = deed_of(great, line)
    if stream == line[0]:
        return line[1] - 1
    done = [place for place in flushes_in(great, stream) if place < written]
    return how_many_in(great[:done[-1]], stream) if done else 0


def behind_of(great, line, stream):
    """How many LINEs of the stream are surely behind the LINE; raises NoLine(line)."""
    written = deed_of(great, line)
    if stream == line[0]:
        return how_many_in(great, stream) - line[1]
    to_come = [place for place in flushes_in(great, line[0]) if place > written]
    return how_many_in(great[to_come[0]:], stream) if to_come else 0


def place_range(great, line):
    """The pair of the least and the greatest place of the LINE in an output; raises NoLine(line)."""
    deed_of(great, line)
    many = lines_of(great)
    ahead = sum([ahead_of(great, line, stream) for stream, _ in many])
    behind = sum([behind_of(great, line, stream) for stream, _ in many])
    return ahead, sum([number for _, number in many]) - 1 - behind


def stand(great, one, other):
    """How one stands to other: "ahead", "behind", "same" or "either"; raises NoLine(line)."""
    deed_of(great, one)
    deed_of(great, other)
    if tupled(one) == tupled(other):
        return "same"
    if ahead_of(great, other, one[0]) >= one[1]:
        return "ahead"
    return "behind" if ahead_of(great, one, other[0]) >= other[1] else "either"


def most_held(great, stream):
    """How many LINEs the stream can hold at once at the most."""
    held = [0]
    for deed in great:
        if is_write(deed, stream):
            held.append(held[-1] + deed[2])
        elif deed[1] == stream:
            held.append(0)
    return max(held)
