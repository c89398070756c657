"""Streams over streams: what is sure when the lines go through several streams, one above another, to the screen."""

from lateshown.errors import NoLeaf, NoLine, NoStream
from lateshown.outputs import come_by
from lateshown.plain import is_pair, tupled
from lateshown.programs import FLUSH, WRITE, counted, is_line, is_name, written_at
from lateshown.states import chains_by
from lateshown.tables import told_by

MOST_BRANCHES = 10
SCREEN = ""


def is_branch(thing):
    """Whether thing is a pair of a NAME and a NAME, or "" for the screen."""
    return is_pair(thing) and is_name(thing[0]) and (is_name(thing[1]) or thing[1] == SCREEN)


def climb(above, name):
    """The list of what is above the stream, one above another; it ends where nothing is, or where it goes round."""
    way = []
    at = name
    while at in above and len(way) < len(above):
        at = above[at]
        way.append(at)
    return way


def is_tree(thing):
    """Whether thing is a TREE."""
    if not isinstance(thing, tuple) or not all([is_branch(part) for part in thing]):
        return False
    streams = [stream for stream, _ in thing]
    if len(streams) > MOST_BRANCHES or streams != sorted(set(streams)):
        return False
    above = {stream: over for stream, over in thing}
    return all([climb(above, stream)[-1] == SCREEN for stream in streams])


def leaves(tree):
    """The ascending tuple of the leaves of the TREE."""
    over = [above for _, above in tree]
    return tuple([stream for stream, _ in tree if stream not in over])


def way_up(tree, name):
    """The tuple of what is above the stream, one above another, "" at the end; raises NoStream(name)."""
    above = {stream: over for stream, over in tree}
    if name not in above:
        raise NoStream(name)
    return tuple(climb(above, name))


def meeting(tree, one, other):
    """The lowest stream that is above both, "" for the screen; raises NoStream(name)."""
    first, second = way_up(tree, one), way_up(tree, other)
    return [name for name in first if name in second][0]


def through(tree, name):
    """The tuple of the DEEDs that flush the stream and all above it, from below; raises NoStream(name)."""
    return tuple([(FLUSH, stream) for stream in (name,) + way_up(tree, name)[:-1]])


def check_deeds(tree, program):
    """Raises NoStream(name) or NoLeaf(name) for the first DEED that the TREE does not bear."""
    streams = [stream for stream, _ in tree]
    ends = leaves(tree)
    for word, stream in program.deeds:
        if stream not in streams:
            raise NoStream(stream)
        if word == WRITE and stream not in ends:
            raise NoLeaf(stream)


def next_flush(program, place, stream):
    """The place of the first flush of the stream behind the place; None if there is none, or the place is None."""
    if place is None:
        return None
    places = [at for at, deed in enumerate(program.deeds) if at > place and deed == (FLUSH, stream)]
    return min(places, default=None)


def arrivals(tree, program, line):
    """By each stream above that of the LINE, and the screen: the place of the flush by which it comes there, or None.

    Raises NoLine(line).
    """
    place = written_at(program, line)
    below = line[0]
    found = {}
    for name in way_up(tree, below):
        place = next_flush(program, place, below)
        found[name] = place
        below = name
    return found


def reached_at(tree, program, line, name):
    """The place of the flush by which the LINE comes to what is above it at the latest; None if there is none.

    Raises NoStream(name) or NoLeaf(name) for the DEEDs, then NoLine(line), then NoStream(name).
    """
    check_deeds(tree, program)
    found = arrivals(tree, program, line)
    if name not in found:
        raise NoStream(name)
    return found[name]


def is_sure_in(tree, program, one, other):
    """Whether one is surely before other; raises NoStream(name) or NoLeaf(name), then NoLine(line)."""
    check_deeds(tree, program)
    for line in (one, other):
        if line not in program:
            raise NoLine(line)
    if one[0] == other[0]:
        return one[1] < other[1]
    come = arrivals(tree, program, one)[meeting(tree, one[0], other[0])]
    return come is not None and come < written_at(program, other)


def table_in(tree, program):
    """The ROWS that tell how many lines of each other leaf are surely before each line.

    Raises NoStream(name) or NoLeaf(name).
    """
    check_deeds(tree, program)
    found = {line: arrivals(tree, program, line) for line in program.lines}
    rows = []
    for line in sorted(program.lines):
        ahead = {}
        for stream in program.streams:
            if stream != line[0]:
                met = meeting(tree, stream, line[0])
                come = [places[met] for own, places in found.items() if own[0] == stream and places[met] is not None]
                ahead[stream] = len([place for place in come if place < written_at(program, line)])
        rows.append((line, counted(ahead)))
    return tuple(rows)


def alike_in(tree, one, other):
    """Whether both Programs have the same OUTPUTs; raises NoStream(name), NoLeaf(name)."""
    return table_in(tree, one) == table_in(tree, other)


def is_output_in(tree, program, thing):
    """Whether thing is an OUTPUT; raises NoStream(name), NoLeaf(name)."""
    told = told_by(table_in(tree, program))
    if not isinstance(thing, tuple) or not all([is_line(part) for part in thing]) or len(thing) != len(told):
        return False
    _, place = come_by(chains_by(told), thing)
    return place is None
