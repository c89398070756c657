"""Tables: how many lines of each other stream are surely out ahead of a line."""

from lateshown.errors import NoLine, OtherLines
from lateshown.plain import is_pair, tupled
from lateshown.programs import FLUSH, Program, WRITE, counted, is_line, numbered

MOST_STREAMS = 5
MOST_LINES = 60


def is_row(thing):
    """Whether thing is a pair of a LINE and a tuple of pairs that have the form of LINEs."""
    if not is_pair(thing) or not is_line(thing[0]) or not isinstance(thing[1], tuple):
        return False
    return all([is_line(pair) for pair in thing[1]])


def is_ahead(ahead, own, many):
    """Whether the pairs tell, ascending, of streams other than the own one numbers that these have."""
    streams = [stream for stream, _ in ahead]
    if own in streams or streams != sorted(set(streams)):
        return False
    return all([number <= many.get(stream, 0) for stream, number in ahead])


def is_rows(thing):
    """Whether thing are ROWS."""
    if not isinstance(thing, tuple) or not all([is_row(row) for row in thing]):
        return False
    lines = [line for line, _ in thing]
    if lines != sorted(numbered([stream for stream, _ in lines])) or len(lines) > MOST_LINES:
        return False
    # The lines are in order by now: the last number of a stream is how many it has.
    many = {stream: number for stream, number in lines}
    if len(many) > MOST_STREAMS:
        return False
    return all([is_ahead(ahead, line[0], many) for line, ahead in thing])


def told_by(rows):
    """A dict of what the ROWS tell of each LINE: a dict of numbers by streams."""
    return {line: dict(ahead) for line, ahead in tupled(rows)}


def check_line(told, line):
    """Raises NoLine(line) if nothing is told of this LINE."""
    if line not in told:
        raise NoLine(line)


def number_in(rows, line, stream):
    """How many lines of the stream are ahead of the LINE by the ROWS; raises NoLine(line)."""
    told = told_by(rows)
    at = tupled(line)
    check_line(told, at)
    return told[at].get(stream, 0)


def surely_before(told, one, other):
    """Whether one is surely before other by what is told of both."""
    if one[0] == other[0]:
        return one[1] < other[1]
    return told[other].get(one[0], 0) >= one[1]


def is_sure(rows, one, other):
    """Whether one is surely before other by the ROWS; raises NoLine(line)."""
    told = told_by(rows)
    first, second = tupled(one), tupled(other)
    check_line(told, first)
    check_line(told, second)
    return surely_before(told, first, second)


def moments(rows):
    """The ascending tuple of all moments of the ROWS."""
    return tuple(sorted({pair for _, ahead in tupled(rows) for pair in ahead}))


def lies_in(told, moment, line):
    """Whether the LINE is in the moment by what is told."""
    stream, number = moment
    if line[0] == stream:
        return line[1] <= number
    return told[line].get(stream, 0) < number


def in_moment(rows, moment, line):
    """Whether the LINE is in the moment of the ROWS; raises NoLine(line)."""
    told = told_by(rows)
    at = tupled(line)
    check_line(told, at)
    return lies_in(told, moment, at)


def by_size(rows):
    """The list of the pairs (moment, dict of its LINEs), those with fewer LINEs first."""
    told = told_by(rows)
    sized = []
    for moment in moments(rows):
        lines = {line: True for line in told if lies_in(told, moment, line)}
        sized.append((len(lines), moment, lines))
    return [(moment, lines) for _, moment, lines in sorted(sized)]


def gap_in(lines):
    """A LINE of the dict and one of its stream with a lesser number that is not there; None if there is none."""
    for stream, number in lines:
        if number > 1 and (stream, number - 1) not in lines:
            return (stream, number), (stream, number - 1)
    return None


def bar(rows):
    """What shows that the ROWS are no TABLE; None if they are one."""
    found = by_size(rows)
    for moment, lines in found:
        gap = gap_in(lines)
        if gap is not None:
            return (moment, moment) + gap
    # If each one is within the next greater one, then each is within all greater ones.
    for (one, fewer), (other, more) in zip(found, found[1:]):
        alone = [line for line in fewer if line not in more]
        if alone:
            far = [line for line in more if line not in fewer]
            return (one, other, alone[0], far[0])
    return None


def is_bar(rows, thing):
    """Whether thing shows that the ROWS are no TABLE, in the form of bar."""
    if not isinstance(thing, tuple) or len(thing) != 4 or not all([is_line(part) for part in thing]):
        return False
    told = told_by(rows)
    found = moments(rows)
    one, other, line, far = thing
    if one not in found or other not in found or line not in told or far not in told:
        return False
    if not lies_in(told, one, line) or lies_in(told, one, far):
        return False
    if one == other:
        return far[0] == line[0] and far[1] < line[1]
    return lies_in(told, other, far) and not lies_in(told, other, line)


def is_table(thing):
    """Whether thing is a TABLE."""
    return is_rows(thing) and bar(thing) is None


def table_of(program):
    """The TABLE of the Program."""
    written = {}
    out = {}
    rows = []
    for word, stream in program.deeds:
        if word == FLUSH:
            out[stream] = written.get(stream, 0)
        else:
            written[stream] = written.get(stream, 0) + 1
            others = {name: out[name] for name in out if name != stream}
            rows.append(((stream, written[stream]), counted(others)))
    return tuple(sorted(rows))


def told_in(program):
    """A dict of what is sure of each LINE of the Program, ascending: a dict of numbers by streams."""
    return told_by(table_of(program))


def writes_of(lines):
    """The list of the DEEDs that write these LINEs."""
    return [(WRITE, stream) for stream, _ in lines]


def program_of(rows):
    """A Program with this TABLE and as few flushes as can be; None if the ROWS are no TABLE."""
    if bar(rows) is not None:
        return None
    deeds = []
    done = {}
    for moment, lines in by_size(rows):
        deeds.extend(writes_of([line for line in lines if line not in done]))
        deeds.append((FLUSH, moment[0]))
        done = lines
    deeds.extend(writes_of([line for line in told_by(rows) if line not in done]))
    return Program(deeds)


def flushes_needed(table):
    """The least number of flushes of a Program with this TABLE."""
    return len(moments(table))


def unsure_pairs(program):
    """The ascending list of the pairs of LINEs, lesser first, of which neither is surely before the other."""
    told = told_in(program)
    lines = list(told)
    pairs = [(one, other) for place, one in enumerate(lines) for other in lines[place + 1:]]
    return [
        (one, other)
        for one, other in pairs
        if not surely_before(told, one, other) and not surely_before(told, other, one)
    ]


def have_same_lines(one, other):
    """Whether both Programs have the same LINEs, in whatever order."""
    return sorted(one.lines) == sorted(other.lines)


def lost_pair(one, other):
    """A pair of LINEs that is sure in other and not in one; None if there is none; raises OtherLines()."""
    if not have_same_lines(one, other):
        raise OtherLines()
    told = told_in(one)
    for line, ahead in table_of(other):
        for stream, number in ahead:
            if told[line].get(stream, 0) < number:
                return ((stream, number), line)
    return None


def within(one, other):
    """Whether each OUTPUT of one is an OUTPUT of other."""
    return have_same_lines(one, other) and lost_pair(one, other) is None


def alike(one, other):
    """Whether both Programs have the same OUTPUTs."""
    return table_of(one) == table_of(other)
