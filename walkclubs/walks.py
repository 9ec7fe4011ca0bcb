"""Walks: tuples of steps, in which a step and its opposite one side by side are as nothing."""

from walkclubs.checks import MOST_LETTERS, check_walk, check_within, is_walk_of

MOST_TIMES = 20


def step_place(step):
    """The place of a step in the order 1, -1, 2, -2, .., from 0 on."""
    return 2 * step - 2 if step > 0 else -2 * step - 1


def steps_of(letters):
    """The steps along so many letters, in their order."""
    return [step for letter in range(1, letters + 1) for step in (letter, -letter)]


def walk_order(walk):
    """A key by which straight walks stand in their order."""
    return len(walk), [step_place(step) for step in walk]


def straightened(walk):
    """A walk without the pairs of a step and its opposite one, left out again and again."""
    kept = []
    for step in walk:
        if kept and kept[-1] == -step:
            kept.pop()
        else:
            kept.append(step)
    return tuple(kept)


def turned_back(walk):
    """A walk turned back, its steps as many as they were."""
    return tuple([-step for step in walk[::-1]])


def lead_and_core(walk):
    """The lead and the core of a straight walk."""
    length = 0
    while length < len(walk) // 2 and walk[length] == -walk[-1 - length]:
        length += 1
    return walk[:length], walk[length:len(walk) - length]


def once_round(steps):
    """The shortest beginning of some steps of which they are a repetition; `()` of `()`."""
    length = 1
    while steps[:length] * (len(steps) // length) != steps:
        length += 1
    return steps[:length]


def rounds_of(steps):
    """All tuples that the steps are if they are begun at each of them in turn and end ahead of it."""
    return [steps[begun:] + steps[:begun] for begun in range(max(1, len(steps)))]


def is_walk(value):
    """Whether any object is a walk."""
    return is_walk_of(MOST_LETTERS, value)


def straight(walk):
    """The walk straightened."""
    check_walk(MOST_LETTERS, walk)
    return straightened(walk)


def behind(one, other):
    """The one walk with the other one behind it."""
    check_walk(MOST_LETTERS, one)
    check_walk(MOST_LETTERS, other)
    return straightened(one + other)


def back(walk):
    """The walk turned back."""
    check_walk(MOST_LETTERS, walk)
    return straightened(turned_back(walk))


def power(walk, times):
    """The walk so many times, turned back for a negative number."""
    check_walk(MOST_LETTERS, walk)
    check_within(times, -MOST_TIMES, MOST_TIMES)
    once = walk if times >= 0 else turned_back(walk)
    return straightened(once * abs(times))


def core(walk):
    """The tuple (lead, core): the walk is its lead, then its core, then its lead turned back."""
    check_walk(MOST_LETTERS, walk)
    return lead_and_core(straightened(walk))


def root(walk):
    """The tuple (root, times) with the greatest times such that the walk is the root so many times."""
    check_walk(MOST_LETTERS, walk)
    lead, middle = lead_and_core(straightened(walk))
    if not middle:
        return (), 0
    once = once_round(middle)
    return lead + once + turned_back(lead), len(middle) // len(once)


def commute(one, other):
    """Whether two walks make the same, whichever of them stands behind the other."""
    check_walk(MOST_LETTERS, one)
    check_walk(MOST_LETTERS, other)
    return straightened(one + other) == straightened(other + one)


def turned(walk, other):
    """The other walk turned back, then the walk, then the other one."""
    check_walk(MOST_LETTERS, walk)
    check_walk(MOST_LETTERS, other)
    return straightened(turned_back(other) + walk + other)


def turned_onto(one, other):
    """The least walk by which the one, turned, is the other one; None if there is none."""
    check_walk(MOST_LETTERS, one)
    check_walk(MOST_LETTERS, other)
    lead, middle = lead_and_core(straightened(one))
    other_lead, other_middle = lead_and_core(straightened(other))
    rounds = rounds_of(middle)
    if other_middle not in rounds:
        return None
    # All such walks go around the core some times, forward or back; the two that go on to the
    # place where the other core begins, without a whole round, leave no longer one to be least.
    begun = rounds.index(other_middle)
    once = once_round(middle)
    ends = turned_back(other_lead)
    forward = straightened(lead + once[:begun] + ends)
    backward = straightened(lead + turned_back(once[begun:]) + ends)
    return min([forward, backward], key=walk_order)


def least_turned(walk):
    """The least walk to which the walk is turned by some walk."""
    check_walk(MOST_LETTERS, walk)
    middle = lead_and_core(straightened(walk))[1]
    return min(rounds_of(middle), key=walk_order)
