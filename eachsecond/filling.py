"""How bundles take the seconds of groups so that what is left costs least.

A set of bundles is an integer here: the sum of 1 << position over its bundles. The seconds that
groups give can be spread over the bundles if and only if each set of bundles has the seconds for
all the groups that no other bundle covers. So groups may give all they can one by one, the
dearest first: nothing that was given is ever taken back, it is only spread in another way.
"""


def cover_of(group, bundles):
    """The set of the bundles that cover the group."""
    cover = 0
    for at, bundle in enumerate(bundles):
        if group[0] in bundle[2] and group[1] in bundle[3]:
            cover |= 1 << at
    return cover


def room_of(bundles):
    """The seconds of each set of bundles."""
    room = [0]
    for bundle in bundles:
        room = room + [seconds + bundle[1] for seconds in room]
    return room


def members(chosen):
    """The positions of the bundles of the set, ascending."""
    return [at for at in range(chosen.bit_length()) if chosen >> at & 1]


class Filling:
    """What groups give to bundles; each cover, a set that covers groups, is treated as one.

    covers: the cover of each group. given: the seconds that each group gives. room: for each set
    of bundles its seconds, less those given by groups that no other bundle covers. short: by
    cover the price of the dearest group that could not give all its seconds.
    """

    def __init__(self, groups, bundles):
        self.groups = groups
        self.covers = [cover_of(group, bundles) for group in groups]
        self.given = [0] * len(groups)
        self.room = room_of(bundles)
        self.short = {}
        self.fill()

    def above(self, cover):
        """The sets with all bundles of the cover."""
        return [wide for wide in range(len(self.room)) if wide & cover == cover]

    def fill(self):
        """Let the groups give what they can, the dearest first."""
        above = {cover: self.above(cover) for cover in self.covers}
        for place in sorted(range(len(self.groups)), key=lambda at: -self.groups[at][2]):
            cover = self.covers[place]
            if cover in self.short:
                continue
            seconds = self.groups[place][3]
            given = min([seconds] + [self.room[wide] for wide in above[cover]])
            for wide in above[cover]:
                self.room[wide] -= given
            self.given[place] = given
            if given < seconds:
                self.short[cover] = self.groups[place][2]

    def bill(self):
        """What the seconds that are not given cost."""
        return sum([group[2] * (group[3] - given) for group, given in zip(self.groups, self.given)])

    def worths(self):
        """What one more second of each bundle would save.

        A group that could not give all is held up by the least set above its cover that has no
        room left; one more second of any of its bundles would serve this group.
        """
        worths = [0] * (len(self.room).bit_length() - 1)
        for cover, price in self.short.items():
            tight = len(self.room) - 1
            for wide in self.above(cover):
                if self.room[wide] == 0:
                    tight &= wide
            for at in members(tight):
                worths[at] = max(worths[at], price)
        return tuple(worths)

    def spread(self):
        """By cover and bundle the seconds that the groups of this cover give to this bundle."""
        sums = {cover: 0 for cover in self.covers}
        for cover, given in zip(self.covers, self.given):
            sums[cover] += given
        room = list(self.room)
        parts = {}
        for cover, left in sums.items():
            for at in members(cover):
                # Only these sets have less room if this bundle, and no other one, serves the cover.
                narrow = [each for each in range(len(room)) if each >> at & 1 and each & cover != cover]
                taken = min([left] + [room[each] for each in narrow])
                for each in narrow:
                    room[each] -= taken
                left -= taken
                parts[(cover, at)] = taken
        return parts

    def uses(self):
        """The triples (group, bundle, seconds), ascending."""
        parts = self.spread()
        rows = []
        for place, cover in enumerate(self.covers):
            left = self.given[place]
            for at in members(cover):
                taken = min(left, parts[(cover, at)])
                if taken > 0:
                    rows.append((place, at, taken))
                left -= taken
                parts[(cover, at)] -= taken
        return tuple(rows)
