"""One house: what is told in it, what of that is kept or set aside, and what is certain or likely then."""

MOST_THINGS = 6
MOST_TOLD = 20

WRONG = -1
NOT_TOLD = -2
IS_KEPT = -3
TOLD_ALREADY = -4
TOO_MANY_TOLD = -5
NO_SUCH_ROW = -2
NOTHING_TO_ASK = -3
NO_STRETCHES = -6

THINGS = 0
TELL = 1
BACK = 2
TRUST = 3
KEPT = 4
ASIDE = 5
WHY = 6
IS = 7
MANY = 8
NTH = 9
CHANCE = 10
FAIREST = 11
BEST = 12
HANG = 13
STRETCHES = 14

# How many whole numbers stand behind each call's own number, by that number.
NUMBERS_BEHIND = (1, 3, 1, 3, 0, 0, 1, 2, 0, 1, 2, 0, 0, 1, 0, 1)


class Told:
    """That a thing, low, lies below another one, high, told by who."""

    def __init__(self, number, who, low, high):
        self.number = number
        self.who = who
        self.low = low
        self.high = high

    def same_words(self, who, low, high):
        """Whether who tells low below high by this."""
        return self.who == who and self.low == low and self.high == high


def steps_up_to(high, told):
    """For high and each thing that lies below it by told: how few of told lead from there up to high."""
    steps = {high: 0}
    reached = [high]
    place = 0
    while place < len(reached):
        thing = reached[place]
        for one in told:
            if one.high == thing and one.low not in steps:
                steps[one.low] = steps[thing] + 1
                reached.append(one.low)
        place += 1
    return steps


def lies_below(low, high, told):
    """Whether low lies below high by told."""
    steps = steps_up_to(high, told)
    return any([one.high in steps for one in told if one.low == low])


def keep(counting):
    """Those that are kept of counting, which is in the order in which it counts; they stay in that order."""
    kept = []
    for one in counting:
        if not lies_below(one.high, one.low, kept):
            kept.append(one)
    return kept


def shortest_chain(low, high, told):
    """The numbers of as few of told as lead from low up to high, of as few the first row."""
    steps = steps_up_to(high, told)
    chain = []
    thing = low
    while thing != high:
        # Only a step that comes nearer to high keeps the chain as short as can be. Numbers differ,
        # so the lowest one at each place makes the first row.
        nearer = [one for one in told if one.low == thing and steps.get(one.high) == steps[thing] - 1]
        chosen = min(nearer, key=lambda one: one.number)
        chain.append(chosen.number)
        thing = chosen.high
    return chain


def may_stand_next(thing, row, told):
    """Whether thing is not in row yet, but all that told tells below it is."""
    return thing not in row and all([one.low in row for one in told if one.high == thing])


def rows_by(size, told):
    """Each row of so many things against which nothing of told is told, the first row first."""
    begun = [[]]
    for place in range(size):
        longer = []
        for row in begun:
            longer.extend([row + [thing] for thing in range(1, size + 1) if may_stand_next(thing, row, told)])
        begun = longer
    return begun


def is_ahead(first, second, row):
    """Whether first stands ahead of second in row."""
    return row.index(first) < row.index(second)


def times_ahead(first, second, rows):
    """In how many of rows first stands ahead of second."""
    return len([row for row in rows if is_ahead(first, second, row)])


def told_against(row, told):
    """How many of told are told against row."""
    return len([one for one in told if is_ahead(one.high, one.low, row)])


def lowest_terms(part, whole):
    """The fraction with part above the line and whole below it, in lowest terms."""
    divisor = max([number for number in range(1, whole + 1) if part % number == 0 and whole % number == 0])
    return [part // divisor, whole // divisor]


def undecided_pairs(size, told):
    """The pairs of things of which neither lies below the other by told, the lower ones first."""
    pairs = []
    for first in range(1, size + 1):
        for second in range(first + 1, size + 1):
            if not lies_below(first, second, told) and not lies_below(second, first, told):
                pairs.append((first, second))
    return pairs


def things_below(high, size, told):
    """Which of so many things lie below high by told, rising."""
    return [low for low in range(1, size + 1) if lies_below(low, high, told)]


def is_within(group, other):
    """Whether all of group is in other."""
    return all([thing in other for thing in group])


def is_nested(groups):
    """Whether of any two of the groups one is within the other."""
    for group in groups:
        if not all([is_within(group, other) or is_within(other, group) for other in groups]):
            return False
    return True


def counted(numbers):
    """The numbers, with how many they are ahead of them."""
    return [len(numbers)] + numbers


class House:
    """The things, what is told of them in the order of its numbers, and who is trusted."""

    def __init__(self):
        self.size = 1
        self.told = []
        self.last_number = 0
        self.trusted = [1, 2, 3]

    def has_thing(self, thing):
        """Whether there is such a thing."""
        return 1 <= thing <= self.size

    def told_as(self, number):
        """What is told as number, or None."""
        for one in self.told:
            if one.number == number:
                return one
        return None

    def counting(self):
        """All that is told, in the order in which it counts."""
        row = []
        for who in self.trusted:
            row.extend([one for one in self.told if one.who == who])
        return row

    def kept_numbers(self):
        """The numbers of what is kept, rising."""
        return sorted([one.number for one in keep(self.counting())])

    def aside_numbers(self):
        """The numbers of what is set aside, rising."""
        kept = self.kept_numbers()
        return [one.number for one in self.told if one.number not in kept]

    def rows(self):
        """The rows that may be, in order."""
        return rows_by(self.size, keep(self.counting()))

    def things(self, size):
        """Begin anew with so many things; trust stays."""
        if size < 1 or size > MOST_THINGS:
            return [WRONG]
        self.size = size
        self.told = []
        self.last_number = 0
        return [0]

    def tell(self, who, low, high):
        """Who tells that low lies below high."""
        if who not in self.trusted or not self.has_thing(low) or not self.has_thing(high) or low == high:
            return [WRONG]
        if any([one.same_words(who, low, high) for one in self.told]):
            return [TOLD_ALREADY]
        if len(self.told) >= MOST_TOLD:
            return [TOO_MANY_TOLD]
        self.last_number += 1
        self.told.append(Told(self.last_number, who, low, high))
        aside = self.aside_numbers()
        return [self.last_number, 0 if self.last_number in aside else 1, len(aside)]

    def back(self, number):
        """What is told as number is not told any more."""
        if self.told_as(number) is None:
            return [NOT_TOLD]
        # The last number stays as it is: a number that was given is not given again.
        self.told = [one for one in self.told if one.number != number]
        return [len(self.aside_numbers())]

    def trust(self, first, second, third):
        """Trust the three who tell in this order."""
        if sorted([first, second, third]) != [1, 2, 3]:
            return [WRONG]
        self.trusted = [first, second, third]
        return [len(self.aside_numbers())]

    def kept(self):
        """What is kept."""
        return counted(self.kept_numbers())

    def aside(self):
        """What is set aside."""
        return counted(self.aside_numbers())

    def why(self, number):
        """By which kept ones, that count before it, what is told as number would make a ring."""
        one = self.told_as(number)
        if one is None:
            return [NOT_TOLD]
        if number in self.kept_numbers():
            return [IS_KEPT]
        counting = self.counting()
        before = counting[:counting.index(one)]
        return counted(shortest_chain(one.high, one.low, keep(before)))

    def compare(self, first, second):
        """Which of two things lies below the other by what is kept: 1 the first, 2 the second, 0 neither."""
        if not self.has_thing(first) or not self.has_thing(second):
            return [WRONG]
        kept = keep(self.counting())
        if lies_below(first, second, kept):
            return [1]
        if lies_below(second, first, kept):
            return [2]
        return [0]

    def many(self):
        """How many rows may be."""
        return [len(self.rows())]

    def nth(self, place):
        """The row that may be at this place, counted from 0."""
        rows = self.rows()
        if place >= len(rows):
            return [NO_SUCH_ROW]
        return rows[place]

    def chance(self, first, second):
        """The chance that first stands ahead of second."""
        if not self.has_thing(first) or not self.has_thing(second) or first == second:
            return [WRONG]
        rows = self.rows()
        return lowest_terms(times_ahead(first, second, rows), len(rows))

    def fairest(self):
        """The fairest question, and the chance that the first of its things stands ahead of the second."""
        pairs = undecided_pairs(self.size, keep(self.counting()))
        if not pairs:
            return [NOTHING_TO_ASK]
        rows = self.rows()
        # Twice the times less all of them is 0 at a half, and as far from 0 on either side of it. Of as
        # near pairs min takes the first, and the pairs with the lower things come first.
        pair = min(pairs, key=lambda each: abs(2 * times_ahead(each[0], each[1], rows) - len(rows)))
        return [pair[0], pair[1]] + lowest_terms(times_ahead(pair[0], pair[1], rows), len(rows))

    def best(self):
        """How many are told against the best row, and this row."""
        # Any row may be the best one, whatever is kept. Of as few told against them min takes the first.
        row = min(rows_by(self.size, []), key=lambda each: told_against(each, self.told))
        return [told_against(row, self.told)] + row

    def hang(self, number):
        """What is set aside, but would be kept, were what is told as number taken back."""
        if self.told_as(number) is None:
            return [NOT_TOLD]
        kept = keep([one for one in self.counting() if one.number != number])
        kept_then = [one.number for one in kept]
        return counted([aside for aside in self.aside_numbers() if aside in kept_then])

    def stretches(self):
        """How many moments there are, and for each thing those at which it begins and ends."""
        kept = keep(self.counting())
        below = [things_below(thing, self.size, kept) for thing in range(1, self.size + 1)]
        moments = []
        for own in below:
            if own not in moments:
                moments.append(own)
        # Where y begins no later than x, all that ends before y begins ends before x begins, too: without
        # nested sets there are no stretches. With them the moments below are some, and a set is less than
        # another one just where it has fewer things.
        if not is_nested(moments):
            return [NO_STRETCHES]
        answered = [len(moments)]
        for thing, own in enumerate(below, start=1):
            answered.append(1 + len([group for group in moments if len(group) < len(own)]))
            answered.append(len([group for group in moments if thing not in group]))
        return answered

    def quiet(self, who):
        """Nothing that who told is told any more."""
        if who not in self.trusted:
            return [WRONG]
        staying = [one for one in self.told if one.who != who]
        taken = len(self.told) - len(staying)
        self.told = staying
        return [taken]


def answer(house, call, given):
    """What the house answers to one call with the numbers given behind it."""
    if call == THINGS:
        return house.things(given[0])
    if call == TELL:
        return house.tell(given[0], given[1], given[2])
    if call == BACK:
        return house.back(given[0])
    if call == TRUST:
        return house.trust(given[0], given[1], given[2])
    if call == KEPT:
        return house.kept()
    if call == ASIDE:
        return house.aside()
    if call == WHY:
        return house.why(given[0])
    if call == IS:
        return house.compare(given[0], given[1])
    if call == MANY:
        return house.many()
    if call == NTH:
        return house.nth(given[0])
    if call == CHANCE:
        return house.chance(given[0], given[1])
    if call == FAIREST:
        return house.fairest()
    if call == BEST:
        return house.best()
    if call == HANG:
        return house.hang(given[0])
    if call == STRETCHES:
        return house.stretches()
    return house.quiet(given[0])


def answers(calls):
    """What a new house answers to calls: for each one how many numbers, then these."""
    house = House()
    answered = []
    place = 0
    while place < len(calls):
        call = calls[place]
        end = place + 1 + NUMBERS_BEHIND[call]
        numbers = answer(house, call, calls[place + 1:end])
        answered.append(len(numbers))
        answered.extend(numbers)
        place = end
    return answered
