"""Live webs: clubs that are worked on deed by deed, in parts that are kept or dropped."""

from walkclubs.bases import basis
from walkclubs.checks import check_walk
from walkclubs.errors import NoPart, Nothing
from walkclubs.meets import meet
from walkclubs.turned import turned
from walkclubs.walks import straightened
from walkclubs.webs import end_of, folded, nothing, step_table


class Live:
    """A club to be worked on, at first that of `()` alone."""

    def __init__(self, letters):
        self.deeds = []
        # The web ahead of all deeds, and the one behind each of them.
        self.webs = [nothing(letters)]
        # How many deeds stood when each open part was begun.
        self.begun = []

    @property
    def web(self):
        """The web now."""
        return self.webs[-1]

    @property
    def letters(self):
        """The number of letters."""
        return self.webs[0][0]

    @property
    def parts(self):
        """How many parts are open."""
        return len(self.begun)

    @property
    def story(self):
        """The tuple of all deeds that stand, each a tuple of its word and of what was passed."""
        return tuple(self.deeds)

    def __len__(self):
        return len(self.deeds)

    def __eq__(self, other):
        return isinstance(other, Live) and self.webs[-1] == other.webs[-1]

    def do(self, word, told, web):
        """Does a deed that makes a web; how many rooms this has."""
        self.deeds.append((word, told))
        self.webs.append(web)
        return len(web[1])

    def take_back(self, count):
        """Takes back all deeds but so many."""
        del self.deeds[count:]
        del self.webs[count + 1:]

    def end_part(self):
        """Ends the innermost open part; how many deeds stood when it was begun."""
        if not self.begun:
            raise NoPart(None)
        return self.begun.pop()

    def put(self, walk):
        """Lets a walk, and all that comes of it with the club, belong, too; how many rooms the web has behind it."""
        check_walk(self.letters, walk)
        return self.do("put", walk, folded(self.letters, basis(self.web) + [walk]))

    def turn(self, walk):
        """Turns the club; how many rooms the web has behind it."""
        return self.do("turn", walk, turned(self.web, walk))

    def cut(self, web):
        """Lets but the walks that belong to a web, too, stay; how many rooms the web has behind it."""
        return self.do("cut", web, meet(self.web, web))

    def undo(self):
        """Takes back the last deed behind the beginning of the innermost open part; its word."""
        first = self.begun[-1] if self.begun else 0
        if len(self.deeds) <= first:
            raise Nothing(None)
        word = self.deeds[-1][0]
        self.take_back(len(self.deeds) - 1)
        return word

    def begin(self):
        """Opens a part."""
        self.begun.append(len(self.deeds))

    def keep(self):
        """Ends the innermost open part; its deeds stay."""
        self.end_part()

    def drop(self):
        """Ends the innermost open part; its deeds are taken back."""
        self.take_back(self.end_part())

    def twin(self):
        """A Live with the same deeds, all of which it can take back, without parts."""
        other = Live(self.letters)
        other.deeds = list(self.deeds)
        other.webs = list(self.webs)
        return other

    def belongs(self, walk):
        """Whether a walk belongs to the web now."""
        return self.room_after(walk) == 0

    def room_after(self, walk):
        """The room to which a walk leads from home in the web now; None if to none."""
        check_walk(self.letters, walk)
        return end_of(step_table(self.web[1]), 0, straightened(walk))
