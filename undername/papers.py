"""Papers: trees that show that two programs are alike."""

from undername.alike import are_alike_on, ground_of, parting_steps, programs_steps
from undername.facts import MANY, OpenQuestion, answers_to, are_same, is_told, made_apart, made_same, no_facts, sized
from undername.fields import field_of
from undername.scripts import test_step
from undername.searches import open_question
from undername.texts import is_number
from undername.trails import copied_trail, holds_in, new_trail
from undername.verdicts import verdict

ASKS_THERE = "there"
ASKS_MANY = "many"
ASKS_IS = "is"
ASKS_SAME = "same"
GREATEST_VALUE = 999999999999999999


def paper(p, q, *, names=None, where=(), answers=True, store=True):
    """Return a paper in which all trees are right, or None if the programs are not alike."""
    ground = ground_of(p, q, names, where)
    if not are_alike_on(ground, p, q, where, answers, store):
        return None
    trees = []
    for field in _told_fields(ground):
        trail = new_trail(field, parting_steps(field, p, q, where, answers, store))
        trees.append(_tree(field, trail, no_facts(field)))
    return tuple(trees)


def paper_holds(p, q, paper, *, names=None, where=(), answers=True, store=True):
    """Tell whether any value is a paper in which all trees are right."""
    fields = _told_fields(ground_of(p, q, names, where))
    if not isinstance(paper, tuple) or len(paper) != len(fields):
        return False
    for field, tree in zip(fields, paper):
        tests = [test_step(field, test) for test in where]
        if not _is_right(field, tree, programs_steps(field, p, q, answers, store), tests):
            return False
    return True


def _told_fields(ground):
    """Return the fields of the told names in whose class there is a name meant."""
    return [field_of(ground, told) for told, least in zip(ground.told, ground.meant) if least is not None]


def _spots(field, is_key):
    """Return the spots of the made keys, or of the gaps."""
    return [spot for spot, is_one in enumerate(field.is_key) if is_one == is_key]


def _tree(field, trail, facts):
    """Return a right tree for what is left of a trail."""
    question = open_question(trail, facts)
    if question is None:
        return ()
    word, one, other = question
    if word == MANY:
        sizes = range(field.most[one] + 1)
        trees = [_tree(field, copied_trail(trail), sized(facts, one, many, many)) for many in sizes]
        number = _spots(field, field.is_key[one]).index(one)
        return (ASKS_THERE, number, trees[1], trees[0]) if field.is_key[one] else (ASKS_MANY, number, *trees)
    yes, no = [_tree(field, copied_trail(trail), told) for told in answers_to(facts, question)]
    made_spots = _spots(field, True)
    numbers = sorted([int(made_spots.index(value[0])) for value in (one, other) if not isinstance(value, int)])
    if len(numbers) == 2:
        return ASKS_SAME, numbers[0], numbers[1], yes, no
    return ASKS_IS, numbers[0], one if isinstance(one, int) else other, yes, no


def _is_right(field, tree, steps, tests):
    """Tell whether any value is a right tree, for stores in which all tests hold at the start."""
    # Trees are no calls within calls, as they may be deep.
    waiting = [(tree, new_trail(field, steps), no_facts(field))]
    while waiting:
        part, trail, facts = waiting.pop()
        if not isinstance(part, tuple):
            return False
        question = open_question(trail, facts)
        if len(part) == 0:
            is_same = question is None and not verdict(trail, facts)
            if not is_same and not _is_left_out(field, facts, tests):
                return False
        else:
            branches = _branches(field, part, facts)
            if not branches:
                return False
            waiting.extend([(branch, copied_trail(trail), told) for branch, told in branches])
    return True


def _is_left_out(field, facts, tests):
    """Tell whether a test does not hold at the start, by what is told."""
    return any([_fails(field, facts, test) for test in tests])


def _fails(field, facts, test):
    try:
        return not holds_in(new_trail(field, ()), facts, test)
    except OpenQuestion:
        return False


def _branches(field, tree, facts):
    """Return the trees within a tree, each with what is told there; nothing if it is none."""
    word = tree[0]
    if word == ASKS_THERE and len(tree) == 4:
        return _there_branches(field, tree, facts)
    if word == ASKS_MANY and len(tree) > 2:
        return _many_branches(field, tree, facts)
    if word == ASKS_IS and len(tree) == 5:
        return _is_branches(field, tree, facts)
    if word == ASKS_SAME and len(tree) == 5:
        return _same_branches(field, tree, facts)
    return []


def _there_branches(field, tree, facts):
    _, number, yes, no = tree
    spot = _spot_of(field, True, number)
    if spot is None or is_told(facts, spot):
        return []
    return [(yes, sized(facts, spot, 1, 1)), (no, sized(facts, spot, 0, 0))]


def _many_branches(field, tree, facts):
    _, number, *trees = tree
    spot = _spot_of(field, False, number)
    if spot is None or is_told(facts, spot) or len(trees) != field.most[spot] + 1:
        return []
    return [(branch, sized(facts, spot, many, many)) for many, branch in enumerate(trees)]


def _is_branches(field, tree, facts):
    _, number, value, yes, no = tree
    spot = _spot_of(field, True, number)
    if spot is None or not is_number(value) or not 0 <= value <= GREATEST_VALUE:
        return []
    return _value_branches(facts, [spot], (spot, 1), value, yes, no)


def _same_branches(field, tree, facts):
    _, number, further, yes, no = tree
    one, other = _spot_of(field, True, number), _spot_of(field, True, further)
    if one is None or other is None or one >= other:
        return []
    return _value_branches(facts, [one, other], (one, 1), (other, 1), yes, no)


def _value_branches(facts, spots, one, other, yes, no):
    """Return the branches of a question about values; it has to be told that the keys are there."""
    if not all([facts.lows[spot] == 1 for spot in spots]) or are_same(facts, one, other) is not None:
        return []
    return [(yes, made_same(facts, one, other)), (no, made_apart(facts, one, other))]


def _spot_of(field, is_key, number):
    """Return the spot of the made key or gap with a number (any value), or None."""
    spots = _spots(field, is_key)
    if not is_number(number) or not 0 <= number < len(spots):
        return None
    return spots[number]
