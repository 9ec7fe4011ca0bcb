"""Straight walks in their order: how many there are, which is the n-th one, and those without some told ones."""

from walkclubs.checks import anew, check_least, check_letters, check_walk, is_step_of, is_walk_of
from walkclubs.errors import InvalidNumber, InvalidWalk
from walkclubs.walks import steps_of, straightened

MOST_TOLD_STEPS = 5


def steps_behind(letters, walk):
    """The steps that may stand behind a straight walk, in their order; walk: a list or a tuple."""
    return [step for step in steps_of(letters) if not walk or step != -walk[-1]]


def many_of_lengths(letters, length):
    """For each length from 0 to this one the number of straight walks."""
    numbers = [1]
    for ahead in range(length):
        numbers.append(numbers[-1] * (2 * letters if ahead == 0 else 2 * letters - 1))
    return numbers


def place_among_all(letters, walk):
    """The number of a straight walk among all, from 0 on."""
    number = 0
    for place, step in enumerate(walk):
        steps = steps_behind(letters, walk[:place])
        number = number * len(steps) + steps.index(step)
    return number + sum(many_of_lengths(letters, len(walk))[:-1])


def walk_at_place(letters, number):
    """The straight walk that has this number among all."""
    length, many = 0, 1
    while number >= many:
        number -= many
        many *= 2 * letters if length == 0 else 2 * letters - 1
        length += 1
    walk = []
    for _ in range(length):
        steps = steps_behind(letters, walk)
        many //= len(steps)
        choice, number = divmod(number, many)
        walk.append(steps[choice])
    return tuple(walk)


def check_step(letters, step):
    """Refuses what is no step of so many letters."""
    if not is_step_of(letters, step):
        raise InvalidNumber(anew(step))


def is_told(letters, value):
    """Whether any object is a straight walk of 1 to 5 steps."""
    if not is_walk_of(letters, value) or value != straightened(value):
        return False
    return 1 <= len(value) <= MOST_TOLD_STEPS


def check_told(letters, told):
    """Refuses the first entry of a list that is no straight walk of 1 to 5 steps."""
    for walk in told:
        if not is_told(letters, walk):
            raise InvalidWalk(anew(walk))


def ends_with_told(told, walk):
    """Whether some of the last steps of a walk are a told one."""
    return any([walk[-count:] in told for count in range(1, MOST_TOLD_STEPS + 1)])


def moves_without(letters, told):
    """A dict that has, for each ending that matters, the list of (step, ending behind it), in their order."""
    # Of a walk only its last step matters and how much of a told one it ends with.
    endings = {(): True}
    for step in steps_of(letters):
        endings[(step,)] = True
    for walk in told:
        for count in range(1, len(walk)):
            endings[walk[:count]] = True
    barred = {walk: True for walk in told}
    moves = {}
    for ending in endings:
        moves[ending] = []
        for step in steps_behind(letters, ending):
            walk = ending + (step,)
            if not ends_with_told(barred, walk):
                while walk not in endings:
                    walk = walk[1:]
                moves[ending].append((step, walk))
    return moves


def ways_on(moves, length):
    """For each number of steps from 0 to this one a dict of how many walks go on so far behind each ending."""
    ways = [{ending: 1 for ending in moves}]
    for _ in range(length):
        ahead = ways[-1]
        ways.append({ending: sum([ahead[after] for _, after in moves[ending]]) for ending in moves})
    return ways


def how_many(letters, length):
    """The number of straight walks of a length."""
    check_letters(letters)
    check_least(length, 0)
    return many_of_lengths(letters, length)[-1]


def nth_walk(letters, number):
    """The n-th straight walk, from 0 on."""
    check_letters(letters)
    check_least(number, 0)
    return walk_at_place(letters, number)


def number_of(letters, walk):
    """The number of a walk, straightened, among all."""
    check_letters(letters)
    check_walk(letters, walk)
    return place_among_all(letters, straightened(walk))


def next_walk(letters, walk):
    """The straight walk right behind a walk."""
    check_letters(letters)
    check_walk(letters, walk)
    return walk_at_place(letters, place_among_all(letters, straightened(walk)) + 1)


def between(letters, first, last, length):
    """The number of straight walks of a length, from 1 on, with a first and a last step."""
    check_letters(letters)
    check_step(letters, first)
    check_step(letters, last)
    check_least(length, 1)
    many = {step: 0 for step in steps_of(letters)}
    many[first] = 1
    for _ in range(length - 1):
        total = sum(list(many.values()))
        many = {step: total - many[-step] for step in many}
    return many[last]


def how_many_without(letters, told, length):
    """The number of straight walks of a length in which no told walk stands as steps side by side."""
    check_letters(letters)
    check_told(letters, told)
    check_least(length, 0)
    return ways_on(moves_without(letters, told), length)[length][()]


def first_without(letters, told, length):
    """The first straight walk of a length in which no told walk stands; None if there is none."""
    check_letters(letters)
    check_told(letters, told)
    check_least(length, 0)
    moves = moves_without(letters, told)
    ways = ways_on(moves, length)
    if ways[length][()] == 0:
        return None
    walk, ending = (), ()
    for left in range(length - 1, -1, -1):
        step, ending = [move for move in moves[ending] if ways[left][move[1]] > 0][0]
        walk += (step,)
    return walk
