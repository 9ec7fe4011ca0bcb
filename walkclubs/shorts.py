"""Short writings: walks done up to 10 ** 30 times, one behind the other, without going their steps one by one."""

from walkclubs.checks import anew, check_letters, check_within, is_integer, is_walk_of
from walkclubs.errors import InvalidShort
from walkclubs.walks import lead_and_core, straightened, turned_back
from walkclubs.webs import checked_table, end_of

MOST_PARTS = 60
MOST_TIMES = 10 ** 30
MOST_STEPS = 60


def is_part(letters, value):
    """Whether any object is a tuple (walk, times) of a short writing."""
    if not isinstance(value, tuple) or len(value) != 2:
        return False
    walk, times = value
    if not is_walk_of(letters, walk) or not is_integer(times):
        return False
    return times != 0 and -MOST_TIMES <= times <= MOST_TIMES


def is_short_of(letters, value):
    """Whether any object is a short writing of so many letters."""
    if not isinstance(value, tuple) or len(value) > MOST_PARTS:
        return False
    return all([is_part(letters, part) for part in value])


def check_short(letters, short):
    """Refuses what is no short writing of so many letters."""
    if not is_short_of(letters, short):
        raise InvalidShort(anew(short))


def round_begun(walk, place):
    """The steps of a walk, begun at one of them and going on with the first one behind the last one."""
    return walk[place:] + walk[:place]


class Stretch:
    """So many first steps of a walk that is done again and again: what is left of one that was done some times."""

    def __init__(self, walk, length):
        self.walk = walk
        self.length = length

    def taken(self, begin, end):
        """The stretch of the steps from a place on and ahead of another one."""
        return Stretch(round_begun(self.walk, begin % len(self.walk)), end - begin)

    def back(self):
        """The stretch of the steps turned back."""
        return Stretch(turned_back(round_begun(self.walk, self.length % len(self.walk))), self.length)

    def alike(self, other):
        """How many first steps two stretches have alike."""
        walk, other_walk = self.walk, other.walk
        most = min(self.length, other.length)
        # Two walks done again and again that are alike for as many steps as both have together are alike for good.
        for place in range(min(most, len(walk) + len(other_walk))):
            if walk[place % len(walk)] != other_walk[place % len(other_walk)]:
                return place
        return most

    def written(self):
        """The list of tuples (walk, times) that write the steps."""
        times, left = divmod(self.length, len(self.walk))
        return [part for part in [(self.walk, times), (self.walk[:left], 1)] if part[0] and part[1] > 0]


def stretches_of(walk, times):
    """The list of stretches, straight as they stand together, of a walk that is done so many times."""
    lead, core = lead_and_core(straightened(walk if times > 0 else turned_back(walk)))
    stretches = [
        Stretch(lead, len(lead)), Stretch(core, len(core) * abs(times)), Stretch(turned_back(lead), len(lead)),
    ]
    return [stretch for stretch in stretches if stretch.length > 0]


def put_behind(kept, stretch):
    """Puts a stretch behind a list of stretches, straight together, and leaves out what falls away."""
    away = 1
    while kept and away > 0 and stretch.length > 0:
        last = kept.pop()
        away = last.back().alike(stretch)
        if away < last.length:
            kept.append(last.taken(0, last.length - away))
        stretch = stretch.taken(away, stretch.length)
    if stretch.length > 0:
        kept.append(stretch)


def straight_stretches(short):
    """The list of stretches, straight as they stand together, of what a short writing writes."""
    kept = []
    for walk, times in short:
        for stretch in stretches_of(walk, times):
            put_behind(kept, stretch)
    return kept


def length_of(stretches):
    """The number of steps of stretches, as they stand."""
    return sum([stretch.length for stretch in stretches])


def cut_out(stretches, begin, end):
    """The list of stretches of the steps from a place on and ahead of another one."""
    found = []
    place = 0
    for stretch in stretches:
        first, last = max(begin - place, 0), min(end - place, stretch.length)
        if first < last:
            found.append(stretch.taken(first, last))
        place += stretch.length
    return found


def short_of(stretches):
    """The short writing of stretches; walks that are done once and stand side by side are put into one."""
    found = []
    for stretch in stretches:
        for walk, times in stretch.written():
            if times == 1 and found and found[-1][1] == 1:
                found[-1] = (found[-1][0] + walk, 1)
            else:
                found.append((walk, times))
    return tuple(found)


def written_back(short):
    """A short writing of what a short writing writes, turned back."""
    return tuple([(walk, -times) for walk, times in short[::-1]])


def room_behind(table, room, walk, times):
    """The room to which a walk, straight if it is done so many times, leads then from a room; None if to none."""
    rooms = [room]
    for _ in range(times):
        after = end_of(table, rooms[-1], walk)
        if after is None:
            return None
        if after == room:
            return rooms[times % len(rooms)]
        rooms.append(after)
    return rooms[-1]


def room_at_end(table, room, short):
    """The room to which what a short writing writes leads from a room; None if to none."""
    for walk, times in short_of(straight_stretches(short)):
        room = room_behind(table, room, walk, times)
        if room is None:
            return None
    return room


def is_short(letters, value):
    """Whether any object is a short writing."""
    check_letters(letters)
    return is_short_of(letters, value)


def short_length(letters, short):
    """The number of steps of the walk that a short writing writes."""
    check_letters(letters)
    check_short(letters, short)
    return length_of(straight_stretches(short))


def short_steps(letters, short, place, count):
    """The tuple of so many steps, from a place on, of the walk that a short writing writes."""
    check_letters(letters)
    check_short(letters, short)
    stretches = straight_stretches(short)
    length = length_of(stretches)
    check_within(place, 0, length - 1)
    check_within(count, 1, min(MOST_STEPS, length - place))
    steps = ()
    for walk, times in short_of(cut_out(stretches, place, place + count)):
        steps += walk * times
    return steps


def short_straight(letters, short):
    """A short writing of the same walk that is straight if it is written out as it stands."""
    check_letters(letters)
    check_short(letters, short)
    return short_of(straight_stretches(short))


def same_walk(letters, one, other):
    """Whether two short writings write one walk."""
    return first_unlike(letters, one, other) is None


def first_unlike(letters, one, other):
    """The least place at which the walks of two short writings are unlike; None if they are one."""
    check_letters(letters)
    check_short(letters, one)
    check_short(letters, other)
    between = length_of(straight_stretches(written_back(one) + other))
    if between == 0:
        return None
    # The one turned back and then the other one: both first parts that are alike fall away.
    return (length_of(straight_stretches(one)) + length_of(straight_stretches(other)) - between) // 2


def short_cut(letters, short, begin, end):
    """A short writing of the steps from the place begin on and ahead of the place end."""
    check_letters(letters)
    check_short(letters, short)
    stretches = straight_stretches(short)
    length = length_of(stretches)
    check_within(begin, 0, length)
    check_within(end, begin, length)
    return short_of(cut_out(stretches, begin, end))


def short_room(web, room, short):
    """The room to which the walk of a short writing leads from a room; None if to none."""
    table = checked_table(web)
    check_within(room, 0, len(table) - 1)
    check_short(web[0], short)
    return room_at_end(table, room, short)


def short_belongs(web, short):
    """Whether the walk of a short writing belongs."""
    table = checked_table(web)
    check_short(web[0], short)
    return room_at_end(table, 0, short) == 0
