"""Two clubs: what they have in common, what they make together, and the walks that are in a coset of each."""

from walkclubs.bases import basis_walks
from walkclubs.checks import check_walk
from walkclubs.webs import (
    check_alike, checked_table, first_reached, folded, lengthened, numbered, size_of_basis, trimmed, way_to,
)

HOME = (0, 0)


def paired(table, other_table):
    """For each pair of rooms to which some steps lead from both homes a dict of the pairs to which each step leads."""
    pairs = {}
    waiting = [HOME]
    while waiting:
        pair = waiting.pop()
        if pair not in pairs:
            steps, other_steps = table[pair[0]], other_table[pair[1]]
            pairs[pair] = {step: (steps[step], other_steps[step]) for step in steps if step in other_steps}
            waiting.extend(list(pairs[pair].values()))
    return pairs


def meet(one, other):
    """The web of the club of the walks that belong to two webs."""
    table = checked_table(one)
    other_table = checked_table(other)
    check_alike(one, other)
    return numbered(one[0], trimmed(paired(table, other_table), HOME), HOME)


def join(one, other):
    """The web of the least club that has the walks of two webs."""
    table = checked_table(one)
    other_table = checked_table(other)
    check_alike(one, other)
    return folded(one[0], basis_walks(one, table) + basis_walks(other, other_table))


def meet_basis_size(one, other):
    """How many walks a basis of the club of the walks that belong to two webs has."""
    return size_of_basis(meet(one, other))


def common_coset_walk(one, first, other, second):
    """The least walk that is in the coset of a first walk beside one club and of a second one beside the other."""
    table = checked_table(one)
    check_walk(one[0], first)
    other_table = checked_table(other)
    check_alike(one, other)
    check_walk(other[0], second)
    # A straight walk to a coset outside of a web leaves it but once, by the steps that lead on there.
    table, ends = lengthened(table, [first])
    other_table, other_ends = lengthened(other_table, [second])
    reached = first_reached(one[0], paired(table, other_table), HOME)
    goal = (ends[0], other_ends[0])
    return way_to(reached, goal) if goal in reached else None
