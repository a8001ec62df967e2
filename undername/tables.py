"""The tables of sets of names: a label tells whether a name is in the set."""

from undername.machines import least_table, state_behind
from undername.words import shared


def spread(letters, steps, many):
    """Return the ways for steps from (state, letter) to a state.

    There are so many states; a further one, behind them, is where every other step leads.
    """
    return [
        tuple([steps.get((state, letter), many) for letter in letters])
        for state in range(many + 1)
    ]


def table_of(letters, names):
    """Return the table of a sequence of names."""
    steps = {}
    ends = {}
    many = 1
    for name in names:
        state = 0
        for letter in name:
            if (state, letter) not in steps:
                steps[(state, letter)] = many
                many += 1
            state = steps[(state, letter)]
        ends[state] = True
    return least_table([state in ends for state in range(many + 1)], spread(letters, steps, many))


def table_in_front(letters, text, table):
    """Return the table of all names of a table with a text in front of them."""
    size = len(text)
    steps = {(at, letter): at + 1 for at, letter in enumerate(text)}
    lost = size + len(table)
    chain = [tuple([steps.get((at, letter), lost) for letter in letters]) for at in range(size)]
    ways = chain + [tuple([to + size for to in way]) for _, way in table] + [tuple([lost for _ in letters])]
    return least_table([False for _ in chain] + [is_in for is_in, _ in table] + [False], ways)


def table_of_family(letters, word, rest, count):
    """Return the table of all word * k + rest with k from a count."""
    along = shared(word, rest)
    # From this place on the names go around: here each may end, or leave the word.
    turn = count * len(word) + along
    size = turn + len(word)
    steps = {}
    for at in range(size):
        steps[(at, word[at % len(word)])] = at + 1 if at + 1 < size else turn
    goal = turn
    many = size
    for letter in rest[along:]:
        steps[(goal, letter)] = many
        goal = many
        many += 1
    return least_table([state == goal for state in range(many + 1)], spread(letters, steps, many))


def table_behind(letters, table, text):
    """Return the table of all names of a table with a text behind them."""
    # A state is a pair: the longest beginning of the text with which the name
    # ends, and the state of the table before these letters.
    turns = _turns(letters, text)
    runs = _runs(letters, table, text)
    met = [(0, 0)]
    numbers = {(0, 0): 0}
    ways = []
    while len(ways) < len(met):
        size, state = met[len(ways)]
        pairs = [
            (turn, runs[state][size + 1 - turn] if turn > 0 else table[runs[state][size]][1][at])
            for at, turn in enumerate(turns[size])
        ]
        for pair in pairs:
            if pair not in numbers:
                numbers[pair] = len(met)
                met.append(pair)
        ways.append(tuple([numbers[pair] for pair in pairs]))
    return least_table([size == len(text) and table[state][0] for size, state in met], ways)


def _turns(letters, text):
    """Return how long a beginning of the text a name ends with, by the one before and the letter."""
    turns = []
    # The row for the longest true end of text[:size] that is a beginning of it.
    shorter = [0 for _ in letters]
    for size in range(len(text) + 1):
        row = [
            size + 1 if text[size:size + 1] == letter else short
            for letter, short in zip(letters, shorter)
        ]
        turns.append(row)
        if size < len(text):
            shorter = turns[shorter[letters.index(text[size])]]
    return turns


def _runs(letters, table, text):
    """Return for each state the states to which the beginnings of the text lead from it."""
    runs = []
    for state, _ in enumerate(table):
        run = [state]
        for letter in text:
            run.append(state_behind(letters, table, run[-1], letter))
        runs.append(run)
    return runs
