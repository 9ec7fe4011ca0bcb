"""Sendings: what comes of walks, and of clubs, if walks are put in the place of letters."""

from walkclubs.bases import free, made, other_ways, relation, rewriting
from walkclubs.checks import anew, check_walk, is_letters, is_walk_of
from walkclubs.errors import InvalidSending, Unlike
from walkclubs.folding import Fold, Joined, ways_along
from walkclubs.meets import meet
from walkclubs.webs import checked_table, end_of, first_ways, folded, numbered, trimmed, ways_of


def is_sending(value):
    """Whether any object is a sending."""
    if not isinstance(value, tuple) or len(value) != 2:
        return False
    letters, walks = value
    if not is_letters(letters) or not isinstance(walks, tuple) or not is_letters(len(walks)):
        return False
    return all([is_walk_of(letters, walk) for walk in walks])


def check_sending(sending):
    """Refuses what is no sending."""
    if not is_sending(sending):
        raise InvalidSending(anew(sending))


def web_along(letters, count, ways):
    """The web of all walks from the first one of so many rooms to itself; each way is (room, walk, room)."""
    joined = Joined(count)
    for room, walk, after in ways:
        if not walk:
            joined.unite(room, after)
    steps = []
    for room, walk, after in ways:
        steps.extend(ways_along(walk, joined.least(room), joined.least(after), count))
        count += max(0, len(walk) - 1)
    return numbered(letters, trimmed(Fold(count, steps).table(), 0))


def sent(sending, walk):
    """The walk to which a walk is sent."""
    check_sending(sending)
    check_walk(len(sending[1]), walk)
    # A walk is a writing by the walks that are put in the place of its letters.
    return made(sending[1], walk)


def sent_web(sending, web):
    """The web of the club of what the walks of a club are sent to."""
    check_sending(sending)
    checked_table(web)
    letters, walks = sending
    if web[0] != len(walks):
        raise Unlike(web[0])
    ways = [(room, walks[letter - 1], after) for room, letter, after in ways_of(web)]
    return web_along(letters, len(web[1]), ways)


def lost_walk(sending):
    """A straight walk but `()` that is sent to `()`; None if there is none."""
    check_sending(sending)
    return relation(sending[0], list(sending[1]))


def sent_into(sending, web):
    """The web of the club of all walks that are sent to walks of a club, by a sending that loses no walk."""
    check_sending(sending)
    letters, walks = sending
    if not free(letters, list(walks)):
        raise InvalidSending(anew(sending))
    image = folded(letters, walks)
    both = meet(image, web)
    table = checked_table(image)
    # The ways that a walk of the image goes there, but those of the tree, tell what is sent to it.
    words = {way: word for way, word in zip(other_ways(image, table), rewriting(image, list(walks)))}
    there = [end_of(table, 0, walk) for walk in first_ways(letters, checked_table(both))]
    ways = [
        (room, words.get((there[room], letter, there[after]), ()), after) for room, letter, after in ways_of(both)
    ]
    return web_along(len(walks), len(there), ways)
