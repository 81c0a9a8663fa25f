"""What a key and a lock give away: the calls about one lock, and their answers.

Cuts at places, those of a key or those that a lock takes, are kept as one
whole number with a bit of its own for each cut at each place: so a key opens
a lock if the lock has all the key's bits, and many locks are gone through fast.
"""

BEGINS = 0
TRY = 1
KNOWS = 2
LEFT = 3
NEXT = 4
SURE = 5

MOST_DEPTHS = 9
MOST_PLACES = 5
MOST_OTHER_CUTS = 8
MOST_TRIED = 30

WRONG_SIZE = -1
WRONG_KEY_OR_LOCK = -2
TRIED_ENOUGH = -5
ONE_LOCK_ALONE = -6


def answers(calls):
    """For each call, in order: how many numbers are answered, then these."""
    door = Door()
    told = []
    at = 0
    while at < len(calls):
        call = list_at(calls, at + 1)
        at = at + 2 + len(call)
        told.extend(with_length(answer_of(door, call)))
    return told


def answer_of(door, call):
    which = call[0]
    if which == BEGINS:
        own = list_at(call, 3)
        return door.begins(call[1], call[2], own, lock_at(call, 4 + len(own)))
    if which == TRY:
        return door.tries(list_at(call, 1))
    if which == KNOWS:
        return door.knows()
    if which == LEFT:
        return door.left()
    if which == NEXT:
        return door.next_key()
    if which == SURE:
        return door.sure()
    return door.changes()


def list_at(numbers, at):
    """The list whose length stands at a position and whose members stand behind it."""
    return numbers[at + 1:at + 1 + numbers[at]]


def lock_at(numbers, at):
    lock = []
    start = at + 1
    for place in range(numbers[at]):
        taken = list_at(numbers, start)
        lock.append(taken)
        start = start + 1 + len(taken)
    return lock


def with_length(numbers):
    return [len(numbers)] + numbers


def size_fits(depths, places):
    if depths < 1 or depths > MOST_DEPTHS:
        return False
    if places < 1 or places > MOST_PLACES:
        return False
    return places * (depths - 1) <= MOST_OTHER_CUTS


def are_depths(cuts, depths):
    return all([cut < depths for cut in cuts])


def can_be_cut(key, reach):
    for place in range(1, len(key)):
        if abs(key[place] - key[place - 1]) > reach:
            return False
    return True


def key_fits(key, places, depths, reach):
    return len(key) == places and are_depths(key, depths) and can_be_cut(key, reach)


def rises(numbers):
    for at in range(1, len(numbers)):
        if numbers[at] <= numbers[at - 1]:
            return False
    return True


def lock_fits(lock, own, depths):
    """Whether a lock is told as it must be, and one's own key opens it."""
    if len(lock) != len(own):
        return False
    for cut, taken in zip(own, lock):
        if not rises(taken) or not are_depths(taken, depths) or cut not in taken:
            return False
    return True


def keys_that_can_be_cut(depths, places, reach):
    """These keys in their order: the lower cut first, at the first place where two differ."""
    keys = [[]]
    for place in range(places):
        longer = []
        for key in keys:
            longer.extend([key + [cut] for cut in range(depths)])
        keys = longer
    return [key for key in keys if can_be_cut(key, reach)]


def keys_with_one_other_cut(depths, own):
    keys = []
    for place in range(len(own)):
        for cut in range(depths):
            if cut != own[place]:
                keys.append(own[:place] + [cut] + own[place + 1:])
    return keys


def bit_of(depths, place, cut):
    return 1 << (place * depths + cut)


def key_bits(depths, key):
    bits = 0
    for place, cut in enumerate(key):
        bits = bits | bit_of(depths, place, cut)
    return bits


def lock_bits(depths, lock):
    bits = 0
    for place, taken in enumerate(lock):
        for cut in taken:
            bits = bits | bit_of(depths, place, cut)
    return bits


def has_all(bits, wanted):
    return (bits & wanted) == wanted


def locks_that_open(depths, own):
    """All locks that one's own key opens: each other cut is taken or isn't."""
    locks = [key_bits(depths, own)]
    for place, own_cut in enumerate(own):
        for cut in range(depths):
            if cut != own_cut:
                bit = bit_of(depths, place, cut)
                locks = locks + [lock | bit for lock in locks]
    return locks


class Door:
    """One's own key, the lock that it opens, and what the tried keys tell of the lock."""

    def __init__(self):
        self.fit(1, 0, [0], [[0]])

    def fit(self, depths, reach, own, lock):
        self.depths = depths
        self.reach = reach
        self.own = own
        self.bits = lock_bits(depths, lock)
        self.cuttable = keys_that_can_be_cut(depths, len(own), reach)
        self.possible = locks_that_open(depths, own)
        self.tried = 0

    def begins(self, depths, reach, own, lock):
        if not size_fits(depths, len(own)):
            return [WRONG_SIZE]
        if not key_fits(own, len(own), depths, reach) or not lock_fits(lock, own, depths):
            return [WRONG_KEY_OR_LOCK]
        self.fit(depths, reach, own, lock)
        return [len(self.cuttable)]

    def tries(self, key):
        if not key_fits(key, len(self.own), self.depths, self.reach):
            return [WRONG_KEY_OR_LOCK]
        if self.tried == MOST_TRIED:
            return [TRIED_ENOUGH]
        wanted = key_bits(self.depths, key)
        opened = has_all(self.bits, wanted)
        self.possible = [bits for bits in self.possible if has_all(bits, wanted) == opened]
        self.tried = self.tried + 1
        return [1 if opened else 0, 1, len(self.possible)]

    def taken_by_all(self):
        # The lock itself always may be it, so there is a first one.
        common = self.possible[0]
        for bits in self.possible:
            common = common & bits
        return common

    def taken_by_some(self):
        union = 0
        for bits in self.possible:
            union = union | bits
        return union

    def cuts_within(self, bits, place):
        return [cut for cut in range(self.depths) if has_all(bits, bit_of(self.depths, place, cut))]

    def knows(self):
        by_all = self.taken_by_all()
        by_some = self.taken_by_some()
        numbers = [self.tried]
        for place in range(len(self.own)):
            maybe_taken = self.cuts_within(by_some, place)
            numbers.extend(with_length(self.cuts_within(by_all, place)))
            numbers.extend(with_length([cut for cut in range(self.depths) if cut not in maybe_taken]))
        return numbers

    def left(self):
        return [len(self.possible)]

    def left_at_worst(self, key):
        wanted = key_bits(self.depths, key)
        opened = len([bits for bits in self.possible if has_all(bits, wanted)])
        return max(opened, len(self.possible) - opened)

    def next_key(self):
        if len(self.possible) == 1:
            return [ONE_LOCK_ALONE]
        # Of several least ones min gives the first, and the keys stand in order.
        key = min(self.cuttable, key=self.left_at_worst)
        return [self.left_at_worst(key)] + with_length(key)

    def sure(self):
        # A key opens all locks that may be it just if all of them take each of its cuts.
        by_all = self.taken_by_all()
        keys = [key for key in self.cuttable if has_all(by_all, key_bits(self.depths, key))]
        others = [key for key in keys if key != self.own]
        first = others[0] if len(others) > 0 else []
        return [len(keys)] + with_length(first)

    def changes(self):
        keys = keys_with_one_other_cut(self.depths, self.own)
        cuttable = [key for key in keys if can_be_cut(key, self.reach)]
        numbers = [len(keys), 1, len(cuttable)]
        for key in cuttable:
            numbers.extend(with_length(key))
        return numbers
