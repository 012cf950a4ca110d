"""One house: what is told in it, what of that is kept and what is set aside."""

MOST_THINGS = 6
MOST_TOLD = 20

WRONG = -1
NOT_TOLD = -2
IS_KEPT = -3
TOLD_ALREADY = -4
TOO_MANY_TOLD = -5

THINGS = 0
TELL = 1
BACK = 2
TRUST = 3
KEPT = 4
ASIDE = 5
WHY = 6

# How many whole numbers stand behind each call's own number, by that number.
NUMBERS_BEHIND = (1, 3, 1, 3, 0, 0, 1, 2)


class NotBuilt(Exception):
    """A call that the document tells, but that this program can't answer yet."""


class Told:
    """That a thing, low, lies below another one, high, told by who."""

    def __init__(self, number, who, low, high):
        self.number = number
        self.who = who
        self.low = low
        self.high = high

    def same_words(self, who, low, high):
        """Whether who tells low below high by this."""
        return self.who == who and self.low == low and self.high == high


def steps_up_to(high, told):
    """For high and each thing that lies below it by told: how few of told lead from there up to high."""
    steps = {high: 0}
    reached = [high]
    place = 0
    while place < len(reached):
        thing = reached[place]
        for one in told:
            if one.high == thing and one.low not in steps:
                steps[one.low] = steps[thing] + 1
                reached.append(one.low)
        place += 1
    return steps


def lies_below(low, high, told):
    """Whether low lies below high by told."""
    steps = steps_up_to(high, told)
    return any([one.high in steps for one in told if one.low == low])


def keep(counting):
    """Those that are kept of counting, which is in the order in which it counts; they stay in that order."""
    kept = []
    for one in counting:
        if not lies_below(one.high, one.low, kept):
            kept.append(one)
    return kept


def shortest_chain(low, high, told):
    """The numbers of as few of told as lead from low up to high, of as few the first row."""
    steps = steps_up_to(high, told)
    chain = []
    thing = low
    while thing != high:
        # Only a step that comes nearer to high keeps the chain as short as can be. Numbers differ,
        # so the lowest one at each place makes the first row.
        nearer = [one for one in told if one.low == thing and steps.get(one.high) == steps[thing] - 1]
        chosen = min(nearer, key=lambda one: one.number)
        chain.append(chosen.number)
        thing = chosen.high
    return chain


def counted(numbers):
    """The numbers, with how many they are ahead of them."""
    return [len(numbers)] + numbers


class House:
    """The things, what is told of them in the order of its numbers, and who is trusted."""

    def __init__(self):
        self.size = 1
        self.told = []
        self.last_number = 0
        self.trusted = [1, 2, 3]

    def has_thing(self, thing):
        """Whether there is such a thing."""
        return 1 <= thing <= self.size

    def told_as(self, number):
        """What is told as number, or None."""
        for one in self.told:
            if one.number == number:
                return one
        return None

    def counting(self):
        """All that is told, in the order in which it counts."""
        row = []
        for who in self.trusted:
            row.extend([one for one in self.told if one.who == who])
        return row

    def kept_numbers(self):
        """The numbers of what is kept, rising."""
        return sorted([one.number for one in keep(self.counting())])

    def aside_numbers(self):
        """The numbers of what is set aside, rising."""
        kept = self.kept_numbers()
        return [one.number for one in self.told if one.number not in kept]

    def things(self, size):
        """Begin anew with so many things; trust stays."""
        if size < 1 or size > MOST_THINGS:
            return [WRONG]
        self.size = size
        self.told = []
        self.last_number = 0
        return [0]

    def tell(self, who, low, high):
        """Who tells that low lies below high."""
        if who < 1 or who > 3 or not self.has_thing(low) or not self.has_thing(high) or low == high:
            return [WRONG]
        if any([one.same_words(who, low, high) for one in self.told]):
            return [TOLD_ALREADY]
        if len(self.told) >= MOST_TOLD:
            return [TOO_MANY_TOLD]
        self.last_number += 1
        self.told.append(Told(self.last_number, who, low, high))
        aside = self.aside_numbers()
        return [self.last_number, 0 if self.last_number in aside else 1, len(aside)]

    def back(self, number):
        """What is told as number is not told any more."""
        if self.told_as(number) is None:
            return [NOT_TOLD]
        # The last number stays as it is: a number that was given is not given again.
        self.told = [one for one in self.told if one.number != number]
        return [len(self.aside_numbers())]

    def trust(self, first, second, third):
        """Trust the three who tell in this order."""
        if sorted([first, second, third]) != [1, 2, 3]:
            return [WRONG]
        self.trusted = [first, second, third]
        return [len(self.aside_numbers())]

    def kept(self):
        """What is kept."""
        return counted(self.kept_numbers())

    def aside(self):
        """What is set aside."""
        return counted(self.aside_numbers())

    def why(self, number):
        """By which kept ones, that count before it, what is told as number would make a ring."""
        one = self.told_as(number)
        if one is None:
            return [NOT_TOLD]
        if number in self.kept_numbers():
            return [IS_KEPT]
        counting = self.counting()
        before = counting[:counting.index(one)]
        return counted(shortest_chain(one.high, one.low, keep(before)))

    def compare(self, first, second):
        """Which of two things lies below the other by what is kept: 1 the first, 2 the second, 0 neither."""
        if not self.has_thing(first) or not self.has_thing(second):
            return [WRONG]
        kept = keep(self.counting())
        if lies_below(first, second, kept):
            return [1]
        if lies_below(second, first, kept):
            return [2]
        return [0]


def answer(house, call, given):
    """What the house answers to one call with the numbers given behind it."""
    if call == THINGS:
        return house.things(given[0])
    if call == TELL:
        return house.tell(given[0], given[1], given[2])
    if call == BACK:
        return house.back(given[0])
    if call == TRUST:
        return house.trust(given[0], given[1], given[2])
    if call == KEPT:
        return house.kept()
    if call == ASIDE:
        return house.aside()
    if call == WHY:
        return house.why(given[0])
    return house.compare(given[0], given[1])


def answers(calls):
    """What a new house answers to calls: for each one how many numbers, then these."""
    house = House()
    answered = []
    place = 0
    while place < len(calls):
        call = calls[place]
        if call >= len(NUMBERS_BEHIND):
            raise NotBuilt(f"call {call} is not built yet")
        end = place + 1 + NUMBERS_BEHIND[call]
        numbers = answer(house, call, calls[place + 1:end])
        answered.append(len(numbers))
        answered.extend(numbers)
        place = end
    return answered
