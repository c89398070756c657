"""States: how many lines of each stream are out, and in how many ways the LINEs can come out one behind another.

A state is a tuple: of each stream, ascending, how many of its lines are out. Chains are a list: of each stream,
ascending, the pair of its NAME and the list of the least states in which each of its lines can come next.
"""

from lateshown.tables import told_in


def needed(told, line, streams):
    """The least state in which the LINE can come next by what is told."""
    # More of the own stream than the lines ahead of it: then it can never come.
    own = max(line[1] - 1, told[line].get(line[0], 0))
    return tuple([own if stream == line[0] else told[line].get(stream, 0) for stream in streams])


def chains_by(told):
    """The chains of the LINEs of which something is told, these ascending."""
    streams = sorted({stream for stream, _ in told})
    return [
        (stream, [needed(told, line, streams) for line in told if line[0] == stream])
        for stream in streams
    ]


def chains_of(program):
    """The chains of the LINEs of the Program."""
    return chains_by(told_in(program))


def start_of(chains):
    """The state in which no line is out."""
    return (0,) * len(chains)


def next_steps(chains, state):
    """The ascending list of the pairs (LINE, state behind it) of the LINEs that can come next."""
    steps = []
    for at, (stream, least) in enumerate(chains):
        out = state[at]
        if out < len(least) and all([need <= have for need, have in zip(least[out], state)]):
            steps.append(((stream, out + 1), state[:at] + (out + 1,) + state[at + 1:]))
    return steps


def layers_from(chains, state):
    """By how many more LINEs are out than in the state: dicts of the states, and in how many ways each one comes."""
    layers = [{state: 1}]
    for _ in range(sum([len(least) for _, least in chains]) - sum(state)):
        layer = {}
        for own, ways in layers[-1].items():
            for _, after in next_steps(chains, own):
                layer[after] = layer.get(after, 0) + ways
        layers.append(layer)
    return layers


def ways_from(chains, state):
    """In how many ways all other LINEs can come behind the state."""
    return sum(layers_from(chains, state)[-1].values())


def ways_on(chains, layers):
    """Of each state of the layers, in how many ways all other LINEs can come behind it."""
    ways = {state: 1 for state in layers[-1]}
    for layer in layers[:-1][::-1]:
        for state in layer:
            ways[state] = sum([ways[after] for _, after in next_steps(chains, state)])
    return ways
