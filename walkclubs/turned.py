"""Clubs that are turned: into one another, or into themselves."""

from walkclubs.bases import basis_walks
from walkclubs.checks import check_walk
from walkclubs.cosets import least_in_coset
from walkclubs.walks import turned_back, walk_order
from walkclubs.webs import check_alike, checked_table, first_ways, folded, lengthened, nothing, numbered, trimmed, whole


def by_rooms(table):
    """A dict of the steps of all rooms of a table."""
    return {room: steps for room, steps in enumerate(table)}


def turning_walks(letters, table, other_table):
    """A walk for each coset of a club whose walks turn it into the other one, the club of `()` alone being neither."""
    # The rooms of which straight walks go round are alike in both, but home may lie at another one, or apart: a walk
    # that leads from home to a room, and from one that is alike in the other web home, turns the one into the other.
    core, other_core = trimmed(by_rooms(table)), trimmed(by_rooms(other_table))
    room = min(other_core)
    seen = numbered(letters, other_core, room)
    home = turned_back(first_ways(letters, other_table)[room])
    firsts = first_ways(letters, table)
    return [firsts[alike] + home for alike in core if numbered(letters, core, alike) == seen]


def turned(web, walk):
    """The web of the club into which a walk turns a club."""
    table = checked_table(web)
    check_walk(web[0], walk)
    wider, ends = lengthened(table, [walk])
    return numbered(web[0], trimmed(by_rooms(wider), ends[0]), ends[0])


def leads_into(one, other):
    """The least walk that turns the one club into the other one; None if there is none."""
    table = checked_table(one)
    other_table = checked_table(other)
    check_alike(one, other)
    letters = one[0]
    if nothing(letters) in (one, other):
        return () if one == other else None
    walks = [least_in_coset(letters, table, walk) for walk in turning_walks(letters, table, other_table)]
    return min(walks, key=walk_order, default=None)


def keeping(web):
    """The web of the club of all walks that turn a club into itself."""
    table = checked_table(web)
    if web == nothing(web[0]):
        return whole(web[0])
    return folded(web[0], basis_walks(web, table) + turning_walks(web[0], table, table))


def keeping_index(web):
    """The number of cosets of a club in that of all walks that turn it into itself; "endless" if endlessly many."""
    table = checked_table(web)
    return "endless" if web == nothing(web[0]) else len(turning_walks(web[0], table, table))


def kept_by_all(web):
    """Whether each walk turns a club into itself."""
    return keeping(web) == whole(web[0])
