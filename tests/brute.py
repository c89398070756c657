"""What is so from outside: all habits of the streams are gone through, deed by deed."""

from itertools import product

# WRITES of 30 lines, of two streams to five.
GREAT_WRITES = [tuple(text) for text in (
    "abcde" * 6, "ab" * 15, "aabbccddee" * 3, "a" * 15 + "b" * 15, "abacadae" * 3 + "edcbae", "a" + "bcde" * 7 + "a",
    "aaabbbabab" * 3)]


def lines_of_counts(counts):
    """The ascending tuple of the LINEs of streams with so many lines."""
    return tuple((stream, number) for stream in sorted(counts) for number in range(1, counts[stream] + 1))


def held(out, written):
    """Of each stream that holds something, the lines that it holds, oldest first."""
    for stream in sorted(written):
        gone = sum(1 for line in out if line[0] == stream)
        if gone < written[stream]:
            yield [(stream, number) for number in range(gone + 1, written[stream] + 1)]


def with_more_let_out(screens, written):
    """All screens that come of these when streams let out lines as they like."""
    known = set(screens)
    new = list(screens)
    while new:
        out = new.pop()
        for lines in held(out, written):
            longer = out + (lines[0],)
            if longer not in known:
                known.add(longer)
                new.append(longer)
    return known


def flushed(out, written, stream):
    """The screen when the stream has let out all that it holds."""
    for lines in held(out, written):
        if lines[0][0] == stream:
            return out + tuple(lines)
    return out


def outputs(deeds):
    """The frozen set of all OUTPUTs."""
    screens = {()}
    written = {}
    for word, stream in deeds:
        screens = with_more_let_out(screens, written)
        if word == "write":
            written[stream] = written.get(stream, 0) + 1
        else:
            screens = {flushed(out, written, stream) for out in screens}
    many = sum(written.values())
    return frozenset(out for out in with_more_let_out(screens, written) if len(out) == many)


def sure_pairs(seen):
    """The set of the pairs of LINEs of which the first stands ahead in all OUTPUTs."""
    lines = next(iter(seen))
    pairs = {(one, other) for one in lines for other in lines if one != other}
    for out in seen:
        at = {line: place for place, line in enumerate(out)}
        pairs = {(one, other) for one, other in pairs if at[one] < at[other]}
    return pairs


def table(seen):
    """The TABLE, told by the OUTPUTs alone."""
    sure = sure_pairs(seen)
    lines = sorted(next(iter(seen)))
    rows = []
    for line in lines:
        many = {}
        for one in lines:
            if one[0] != line[0] and (one, line) in sure:
                many[one[0]] = many.get(one[0], 0) + 1
        rows.append((line, tuple(sorted(many.items()))))
    return tuple(rows)


def all_deeds(streams, longest):
    """All tuples of at most so many DEEDs of these streams."""
    deeds = [(word, stream) for word in ("write", "flush") for stream in streams]
    for length in range(longest + 1):
        yield from product(deeds, repeat=length)


def orders_of_writes(counts):
    """All orders in which so many lines can be written."""
    if not any(counts.values()):
        yield ()
    for stream in sorted(counts):
        if counts[stream]:
            for behind in orders_of_writes({**counts, stream: counts[stream] - 1}):
                yield (stream, *behind)


def programs_with(counts):
    """The DEEDs of Programs with so many lines, with any flushes between their writes."""
    streams = sorted(counts)
    choices = [
        tuple(("flush", stream) for stream, taken in zip(streams, marks) if taken)
        for marks in product((False, True), repeat=len(streams))
    ]
    for writes in orders_of_writes(counts):
        for gaps in product(choices, repeat=max(0, len(writes) - 1)):
            deeds = []
            for place, stream in enumerate(writes):
                deeds.append(("write", stream))
                if place < len(gaps):
                    deeds.extend(gaps[place])
            yield tuple(deeds)


def all_rows(counts):
    """All ROWS of streams with so many lines."""
    lines = lines_of_counts(counts)
    choices = []
    for stream, _ in lines:
        others = [other for other in sorted(counts) if other != stream]
        told = product(*[range(counts[other] + 1) for other in others])
        choices.append([
            tuple((other, number) for other, number in zip(others, numbers) if number)
            for numbers in told
        ])
    for told in product(*choices):
        yield tuple(zip(lines, told))


def all_moments(rows):
    """The set of the moments of ROWS."""
    return {pair for _, ahead in rows for pair in ahead}


def lines_in(rows, moment):
    """The set of the LINEs in the moment, in the words of the document."""
    stream, number = moment
    inside = set()
    for line, ahead in rows:
        if line[0] == stream:
            if line[1] <= number:
                inside.add(line)
        elif not [pair for pair in ahead if pair[0] == stream and pair[1] >= number]:
            inside.add(line)
    return inside


def shows_no_table(rows, one, other, line, far):
    """Whether this shows that ROWS are no TABLE, in the words of the document."""
    if line not in lines_in(rows, one):
        return False
    if one != other:
        return (line not in lines_in(rows, other) and far in lines_in(rows, other)
                and far not in lines_in(rows, one))
    return far[0] == line[0] and far[1] < line[1] and far not in lines_in(rows, one)


def all_flushes(writes):
    """All FLUSHes of the WRITES."""
    return [(moment, stream) for moment in range(len(writes) + 1) for stream in sorted(set(writes))]


def is_no_mark(writes, flush):
    """Whether the FLUSH is idle, in the words of the document."""
    moment, stream = flush
    return stream not in writes[:moment] or not [own for own in writes[moment:] if own != stream]


def deeds_with(writes, flushes):
    """The DEEDs that write so, with these FLUSHes, in this order at one moment."""
    deeds = []
    for moment in range(len(writes) + 1):
        deeds.extend(("flush", stream) for at, stream in flushes if at == moment)
        deeds.extend(("write", stream) for stream in writes[moment:moment + 1])
    return tuple(deeds)


def tables_with(writes, tell):
    """Of each TABLE that comes of one FLUSH more again and again: the FLUSHes, and the set of the marks.

    tell tells the TABLE of DEEDs.
    """
    known = {tell(deeds_with(writes, ())): ()}
    new = list(known)
    found = {}
    for table in new:
        flushes = known[table]
        alike = set()
        for flush in all_flushes(writes):
            longer = tell(deeds_with(writes, (*flushes, flush)))
            if longer == table:
                alike.add(flush)
            elif longer not in known:
                known[longer] = (*flushes, flush)
                new.append(longer)
        found[table] = flushes, frozenset(flush for flush in alike if not is_no_mark(writes, flush))
    return found


def marks_below(writes, mark):
    """The set of the marks that stand below this one, by steps from one moment to the next."""
    flushes = [flush for flush in all_flushes(writes) if not is_no_mark(writes, flush)]
    steps = set()
    for moment, stream in flushes:
        if (moment + 1, stream) in flushes:
            pair = ((moment, stream), (moment + 1, stream))
            steps.add(pair if writes[moment] == stream else pair[::-1])
    lower, many = set(), -1
    while many < len(lower):
        many = len(lower)
        lower |= {low for low, high in steps if high == mark or high in lower}
    return lower


def screens_at(deeds):
    """Of each place from 0 to how many DEEDs there are: the frozen set of what the screen can show, stopped there."""
    screens = {()}
    written = {}
    found = []
    for place in range(len(deeds) + 1):
        screens = with_more_let_out(screens, written)
        found.append(frozenset(screens))
        for word, stream in deeds[place:place + 1]:
            if word == "write":
                written[stream] = written.get(stream, 0) + 1
            else:
                screens = {flushed(out, written, stream) for out in screens}
    return found


def let_out(state, above, stream, many):
    """The state when the stream of a tree has let out so many of its oldest lines; a state holds the screen by ""."""
    holds = dict(state)
    gone, holds[stream] = holds[stream][:many], holds[stream][many:]
    holds[above[stream]] += gone
    return tuple(sorted(holds.items()))


def with_more_let_out_in(states, above):
    """All states that come of these when streams of a tree let out lines as they like."""
    known = set(states)
    new = list(states)
    while new:
        state = new.pop()
        for stream, lines in state:
            if stream and lines:
                after = let_out(state, above, stream, 1)
                if after not in known:
                    known.add(after)
                    new.append(after)
    return known


def outputs_in(tree, deeds):
    """The frozen set of all OUTPUTs of the DEEDs in the tree."""
    above = dict(tree)
    states = {tuple((stream, ()) for stream in ["", *sorted(above)])}
    written = {}
    for word, stream in deeds:
        states = with_more_let_out_in(states, above)
        if word == "write":
            written[stream] = written.get(stream, 0) + 1
            line = ((stream, written[stream]),)
            states = {tuple((own, lines + line if own == stream else lines) for own, lines in state)
                      for state in states}
        else:
            states = {let_out(state, above, stream, len(dict(state)[stream])) for state in states}
    many = sum(written.values())
    ends = [dict(state)[""] for state in with_more_let_out_in(states, above)]
    return frozenset(out for out in ends if len(out) == many)
