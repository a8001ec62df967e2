"""How many names the table of a set of names has, and which one is the k-th."""


def size_of(table):
    """Return the number of names, or None if there are endlessly many."""
    lost = _lost_state(table)
    due = [0 for _ in table]
    for state, (_, way) in enumerate(table):
        for to in way:
            due[to] = due[to] + int(state != lost)
    many = [int(state == 0) for state, _ in enumerate(table)]
    ready = [state for state in range(len(table)) if state == 0 and due[0] == 0 and state != lost]
    total = 0
    passed = 0
    # Each state is passed when all steps to it are: then it is known how many
    # names lead to it. A state that goes around is never passed.
    while ready:
        state = ready.pop()
        passed += 1
        is_in, way = table[state]
        total = total + many[state] * int(is_in)
        for to in way:
            many[to] = many[to] + many[state]
            due[to] = due[to] - 1
            if due[to] == 0 and to != lost:
                ready.append(to)
    return total if passed == len([state for state in range(len(table)) if state != lost]) else None


def many_of_length(table, length):
    """Return the number of names with so many letters."""
    lost = _lost_state(table)
    reached = {0: 1}
    for _ in range(length):
        reached = _stepped(table, lost, reached)
    return _many_in(table, reached)


def name_with_number(letters, table, number):
    """Return the name with a number, from 0, or None if there are fewer names."""
    if number < 0:
        return None
    lost = _lost_state(table)
    reached = {} if lost == 0 else {0: 1}
    left = number
    length = 0
    while reached:
        many = _many_in(table, reached)
        if left < many:
            return _spelled(letters, table, length, left)
        left = left - many
        length += 1
        reached = _stepped(table, lost, reached)
    return None


def least_name(letters, table):
    """Return the least name, or None if there is none."""
    # States are numbered as they are met, so the least name of the set leads to
    # the first state that is in it, each time by the step that met the next one.
    steps = {0: None}
    for state, (is_in, way) in enumerate(table):
        if is_in:
            return _path(steps, state)
        for letter, to in zip(letters, way):
            if to not in steps:
                steps[to] = (state, letter)
    return None


def _path(steps, state):
    """Return the letters of the steps that lead to a state."""
    path = []
    while steps[state] is not None:
        state, letter = steps[state]
        path.append(letter)
    return "".join(path)[::-1]


def _lost_state(table):
    """Return the state from which no name leads into the set, or None."""
    # A least table has one such state at most, which leads to itself alone.
    for state, (is_in, way) in enumerate(table):
        if not is_in and all([to == state for to in way]):
            return state
    return None


def _stepped(table, lost, reached):
    """Return how many names of the next length lead to each state but the lost one."""
    found = {}
    for state, many in reached.items():
        for to in table[state][1]:
            if to != lost:
                found[to] = found.get(to, 0) + many
    return found


def _many_in(table, reached):
    return sum([many for state, many in reached.items() if table[state][0]])


def _spelled(letters, table, length, number):
    """Return the name with a number among the names of one length."""
    counts = [[int(is_in) for is_in, _ in table]]
    for _ in range(length):
        last = counts[-1]
        counts.append([sum([last[goal] for goal in way]) for _, way in table])
    name = ""
    state = 0
    left = number
    while len(name) < length:
        further = counts[length - len(name) - 1]
        for letter, to in zip(letters, table[state][1]):
            if left < further[to]:
                name = name + letter
                state = to
                break
            left = left - further[to]
    return name
