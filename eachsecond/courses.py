"""Forwards that go on from second to second: when circles come up, and when two plans part.

Here the owner of a number is the pair (customer, carrier) by which it is held, or None.
"""


def changes(rows):
    """By second, which numbers have something new, and what, of rows (number, second, what) that ascend."""
    found = {}
    last, had = None, None
    for number, second, what in rows:
        if number != last:
            last, had = number, None
        if what != had:
            found.setdefault(second, {})[number] = what
            had = what
    return found


class Course:
    """Forwards at one second: the targets of numbers, and the numbers that are in circles (`around`)."""

    def __init__(self):
        self.targets = {}
        self.around = {}
        # All numbers that ever were a target; no other one can be in a circle.
        self.reached = {}

    def go(self, moves):
        """Forward numbers elsewhere; whether a circle was broken or closed by it."""
        broken = self.leave(moves)
        self.targets.update(moves)
        for number in moves:
            self.reached[moves[number]] = True
        return self.close(moves) or broken

    def leave(self, moves):
        """Break the circles that numbers are in; whether there were any."""
        broken = False
        for start in moves:
            number = start
            while number in self.around:
                broken = True
                del self.around[number]
                number = self.targets[number]
        return broken

    def close(self, moves):
        """Find the circles that numbers are in now, and were not before; whether there are any."""
        closed = False
        passed = {}
        for start in moves:
            number = start if start in self.reached else None
            while number is not None and number not in passed and number not in self.around:
                passed[number] = start
                number = self.targets.get(number)
            # Who comes to where an earlier start led comes to no circle that was not found then.
            if number is not None and passed.get(number) == start:
                closed = True
                while number not in self.around:
                    self.around[number] = True
                    number = self.targets[number]
        return closed


class Pair:
    """The courses of two plans, and the owners of numbers in both, at one second.

    differ: the numbers that are not forwarded to the same number in both plans.
    ends: where one comes to in the other plan from numbers, those in circles being ends, too;
    kept from second to second for the numbers that one passes from those of differ.
    """

    def __init__(self):
        self.one = Course()
        self.other = Course()
        self.one_owners = {}
        self.other_owners = {}
        self.differ = {}
        self.ends = {}

    def go(self, one_moves, other_moves, one_owners, other_owners):
        """Go on to a second that brings these changes; whether the rings of a number part there."""
        self.one.go(one_moves)
        turned = self.other.go(other_moves)
        self.one_owners.update(one_owners)
        self.other_owners.update(other_owners)
        moved = {**one_moves, **other_moves}
        changed = {**moved, **one_owners, **other_owners}
        if self.one.around != self.other.around or any([self.stays_part(number) for number in changed]):
            return True
        for number in moved:
            self.note(number)
        if turned or any([number in self.ends for number in other_moves]):
            self.ends = {number: number for number in self.other.around}
            moved = self.differ
        return self.ways_part([number for number in moved if number in self.differ])

    def stays_part(self, number):
        """Whether the number is forwarded in one plan only, or in none and has not the same owner in both."""
        here, there = self.one.targets.get(number), self.other.targets.get(number)
        if here is None and there is None:
            return self.one_owners.get(number) != self.other_owners.get(number)
        return here is None or there is None

    def note(self, number):
        """Keep whether the number is forwarded to the same number in both plans."""
        if self.one.targets.get(number) == self.other.targets.get(number):
            self.differ.pop(number, None)
        else:
            self.differ[number] = True

    def ways_part(self, numbers):
        """Whether one of the numbers is in no circle, and its targets do not lead to the same end.

        The circles, and the numbers that are not forwarded, are the same in both plans by now. So
        the other plan tells enough: if for all numbers both targets have the same end in it, then
        all that one passes in the one plan has it, too.
        """
        aims, around, ends = self.one.targets, self.one.around, self.ends
        numbers = [number for number in numbers if number not in around]
        others = [aims[number] for number in numbers]
        self.find_ends(numbers)
        self.find_ends(others)
        return [ends[number] for number in numbers] != [ends[number] for number in others]

    def find_ends(self, numbers):
        """Find the ends of all numbers, and of those that one passes."""
        ends, targets = self.ends, self.other.targets
        for start in numbers:
            if start in ends:
                continue
            way = []
            number = start
            while number is not None and number not in ends:
                way.append(number)
                number = targets.get(number)
            end = way[-1] if number is None else ends[number]
            for passed in way:
                ends[passed] = end
