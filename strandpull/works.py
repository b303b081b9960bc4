"""A works: ropes are put in, loads hung on one behind the other, broken ropes spliced, slack ones drawn tighter."""

from strandpull.errors import Full, Hung, NoLoad, NoName, NoNumber, NoRope, NoRopes, Taken, Whole
from strandpull.kinds import NOUGHT
from strandpull.ropes import MOST_ROPES, is_load, is_rope, is_within, ropes_left, sunk_by
from strandpull.waves import waves


class Works:
    """A bundle that goes on load by load."""

    def __init__(self):
        self.strands = ()
        self.gone = ()
        self.weight = NOUGHT
        self.story = []
        self.falls = 0
        self.busy = False

    def put(self, rope):
        """Puts a rope in."""
        self.busy = True
        try:
            if not is_rope(rope):
                raise NoRope("that is no rope")
            if is_named(self.strands, rope[0]):
                raise Taken("a rope has that name already")
            if len(self.strands) >= MOST_ROPES:
                raise Full("there is no room for another rope")
            self.refuse_hung()
            self.strands = tuple(sorted([*self.strands, rope]))
        finally:
            self.busy = False

    def hang(self, load):
        """Hangs a load on in the place of the one that hangs, and tells the waves: a list."""
        self.busy = True
        try:
            if not is_load(load):
                raise NoLoad("that is no load")
            if load != NOUGHT and len(self) == 0:
                raise NoRopes("no rope is whole")
            told = waves(self.strands, self.gone, load)
            self.lose(load, told)
            self.settle(load)
            return told
        finally:
            self.busy = False

    def splice(self, name):
        """Makes a broken rope whole again."""
        self.busy = True
        try:
            self.refuse_unnamed(name)
            if name not in self.gone:
                raise Whole(name)
            self.refuse_hung()
            self.gone = tuple([other for other in self.gone if other != name])
        finally:
            self.busy = False

    def tighten(self, name, by):
        """Draws a rope tighter: its slack is so much less."""
        self.busy = True
        try:
            self.refuse_unnamed(name)
            if not is_within(by, 1, slack_called(self.strands, name)):
                raise NoNumber("the rope has not so much slack")
            self.refuse_hung()
            self.strands = tuple([tighter(rope, by) if rope[0] == name else rope for rope in self.strands])
        finally:
            self.busy = False

    def ropes(self):
        """All ropes, broken ones too: a rising tuple."""
        return self.strands

    def broken(self):
        """The names of the broken ropes: a rising tuple."""
        return self.gone

    def load(self):
        """The load that hangs: a fraction."""
        return self.weight

    def sinking(self):
        """How far the bar sinks: a fraction."""
        return sunk_by(ropes_left(self.strands, self.gone), self.weight)

    def log(self):
        """The loads that broke some ropes, with the names of these: a list, in the order of time."""
        return list(self.story)

    def fell(self):
        """How often a load fell."""
        return self.falls

    def __len__(self):
        return len(ropes_left(self.strands, self.gone))

    def refuse_hung(self):
        """Refuses where a load above 0 hangs."""
        if self.weight != NOUGHT:
            raise Hung(self.weight)

    def refuse_unnamed(self, name):
        """Refuses anything but the name of a rope."""
        if not is_named(self.strands, name):
            raise NoName("no rope has that name")

    def lose(self, load, told):
        """Takes the ropes of these waves as broken by the load."""
        names = []
        for wave in told:
            names.extend(wave)
        if names:
            self.story.append((load, tuple(sorted(names))))
            self.gone = tuple(sorted([*self.gone, *names]))

    def settle(self, load):
        """Leaves the load hanging, or lets it fall where no rope is left to hold it."""
        if load != NOUGHT and len(self) == 0:
            self.falls += 1
            self.weight = NOUGHT
        else:
            self.weight = load


def is_named(ropes, thing):
    """Whether it is the name of one of the ropes."""
    return any([rope[0] == thing for rope in ropes])


def slack_called(ropes, name):
    """The slack of the rope of that name."""
    return [rope[1] for rope in ropes if rope[0] == name][0]


def tighter(rope, by):
    """The rope with so much less slack."""
    name, slack, stiff, strong = rope
    return (name, slack - by, stiff, strong)
