"""Finite machines that read names letter by letter.

A machine is a list of labels and a list of ways, one of each for each state; a
way is the tuple of the next states, one for each letter. The start is state 0.
A table is a machine as one tuple of pairs of a label and a way, its states
numbered as they are met: state by state, letter by letter.
"""


def least_table(labels, ways):
    """Return the table of the least machine that gives each name the same label."""
    table = met_table(labels, ways, 0)
    parts = _parts(table)
    part_labels = [None for _ in table]
    part_ways = [() for _ in table]
    for part, (label, way) in zip(parts, table):
        part_labels[part] = label
        part_ways[part] = tuple([parts[to] for to in way])
    return met_table(part_labels, part_ways, parts[0])


def met_table(labels, ways, start):
    """Return the table of the states that are met from a start on."""
    met = [start]
    numbers = {start: 0}
    at = 0
    while at < len(met):
        state = met[at]
        for to in ways[state]:
            if to not in numbers:
                numbers[to] = len(met)
                met.append(to)
        at += 1
    return tuple([(labels[old], tuple([numbers[goal] for goal in ways[old]])) for old in met])


def _parts(table):
    """Return for each state the number of its part; states that are alike share one."""
    # Hopcroft's algorithm. The states of a part stand side by side in `states`,
    # from firsts[part] up to lasts[part].
    part_of = list(numbered([label for label, _ in table]))
    states = list(_side_by_side(part_of))
    places = list(_places(states))
    firsts = [at for at, state in enumerate(states) if at == 0 or part_of[state] != part_of[states[at - 1]]]
    lasts = list(firsts[1:] + [len(states)])
    sources = [_sources(table, at) for at in range(len(table[0][1]))]
    waiting = list(range(len(firsts)))
    while waiting:
        splitter = waiting.pop()
        goals = states[firsts[splitter]:lasts[splitter]]
        for sources_of in sources:
            middles = {}
            for state in [source for goal in goals for source in sources_of[goal]]:
                # States that lead to a goal change places to the front of their part.
                to = middles.get(part_of[state], firsts[part_of[state]])
                middles[part_of[state]] = to + 1
                states[places[state]] = states[to]
                places[states[to]] = places[state]
                states[to] = state
                places[state] = to
            for part, middle in middles.items():
                if middle < lasts[part]:
                    waiting.append(len(firsts))
                    # The smaller side becomes the new part. It alone has to split
                    # others: the whole did so already, or the rest still waits.
                    if middle - firsts[part] <= lasts[part] - middle:
                        firsts.append(firsts[part])
                        lasts.append(middle)
                        firsts[part] = middle
                    else:
                        firsts.append(middle)
                        lasts.append(lasts[part])
                        lasts[part] = middle
                    for state in states[firsts[-1]:lasts[-1]]:
                        part_of[state] = len(firsts) - 1
    return part_of


def numbered(labels):
    """Return a number for each label, in the order in which they are met."""
    numbers = {}
    for label in labels:
        if label not in numbers:
            numbers[label] = len(numbers)
    return [numbers[label] for label in labels]


def _side_by_side(part_of):
    """Return the states, part by part."""
    many = len(part_of)
    return [code % many for code in sorted([int(part * many + state) for state, part in enumerate(part_of)])]


def _places(states):
    """Return for each state where it stands."""
    places = [0 for _ in states]
    for at, state in enumerate(states):
        places[state] = at
    return places


def _sources(table, letter_at):
    """Return for each state the list of the states from which a letter leads to it."""
    many = len(table)
    codes = sorted([int(way[letter_at] * many + state) for state, (_, way) in enumerate(table)])
    found = []
    at = 0
    for goal in range(many):
        start = at
        while at < many and codes[at] // many == goal:
            at += 1
        found.append([code % many for code in codes[start:at]])
    return found


def joined(one, other):
    """Return the machine that reads names with two tables at once; labels are pairs of theirs."""
    met = [(0, 0)]
    numbers = {(0, 0): 0}
    ways = []
    while len(ways) < len(met):
        first, second = met[len(ways)]
        for pair in zip(one[first][1], other[second][1]):
            if pair not in numbers:
                numbers[pair] = len(met)
                met.append(pair)
        ways.append(tuple([numbers[pair] for pair in zip(one[first][1], other[second][1])]))
    return [(one[first][0], other[second][0]) for first, second in met], ways


def state_behind(letters, table, state, text):
    """Return the state to which a text leads from a state."""
    for letter in text:
        state = table[state][1][letters.index(letter)]
    return state


def least_names(letters, table):
    """Return for each state the least name that leads to it."""
    names = [None for _ in table]
    names[0] = ""
    # States are numbered as they are met, so each name is there when it is needed.
    for at, (_, way) in enumerate(table):
        for letter, to in zip(letters, way):
            if names[to] is None:
                names[to] = names[at] + letter
    return names
