"""What the tests share: calls told as numbers, and a plain count of all locks to hold the answers against."""

from itertools import combinations, product

from keylock.keys import answers

LARGEST = 4294967295
NUMBER_OF = {"begins": 0, "try": 1, "knows": 2, "left": 3, "next": 4, "sure": 5, "changes": 6}
SIZES = [(depths, places) for places in range(1, 6) for depths in range(1, 10) if places * (depths - 1) <= 8]

KNOWS = ("knows",)
LEFT = ("left",)
NEXT = ("next",)
SURE = ("sure",)
CHANGES = ("changes",)
PROBE = [KNOWS, LEFT, NEXT, SURE, CHANGES]


def begins(depths, reach, own, lock):
    return ("begins", depths, reach, own, lock)


def tries(key):
    return ("try", key)


def counted(numbers):
    return [len(numbers), *numbers]


def told(call):
    """One call as the interface hands it in."""
    numbers = [NUMBER_OF[call[0]]]
    if call[0] == "begins":
        numbers += [call[1], call[2], *counted(call[3]), len(call[4])]
        for taken in call[4]:
            numbers += counted(taken)
    if call[0] == "try":
        numbers += counted(call[1])
    return [0, *counted(numbers)]


def line(calls):
    return [number for call in calls for number in told(call)]


def parted(numbers):
    """The answers of a line, one list for each call."""
    parts = []
    at = 0
    while at < len(numbers):
        size = numbers[at]
        part = numbers[at + 1:at + 1 + size]
        if len(part) != size:
            raise AssertionError("an answer is shorter than it says")
        parts.append(part)
        at += 1 + size
    return parts


def ask(*calls):
    return parted(answers(line(calls)))


def subsets(depths):
    return [set(some) for size in range(depths + 1) for some in combinations(range(depths), size)]


def plain_opens(key, lock):
    return all(cut in taken for cut, taken in zip(key, lock))


class PlainLine:
    """The document's words gone through one by one: every lock and every key, without a short cut."""

    def __init__(self):
        self.start(1, 0, [0], [[0]])

    def start(self, depths, reach, own, lock):
        self.depths, self.reach, self.own, self.lock = depths, reach, own, lock
        self.tried = []
        self.all_locks = list(product(subsets(depths), repeat=len(own)))

    def may_be_it(self):
        return [
            lock for lock in self.all_locks
            if plain_opens(self.own, lock)
            and all(plain_opens(key, lock) == plain_opens(key, self.lock) for key in self.tried)
        ]

    def can_be_cut(self, key):
        return all(abs(a - b) <= self.reach for a, b in zip(key, key[1:]))

    def keys(self):
        every = sorted(list(key) for key in product(range(self.depths), repeat=len(self.own)))
        return [key for key in every if self.can_be_cut(key)]

    def begins(self, depths, reach, own, lock):
        if depths == 0 or depths > 9 or len(own) == 0 or len(own) > 5 or len(own) * (depths - 1) > 8:
            return [-1]
        if any(cut >= depths for cut in own) or any(abs(a - b) > reach for a, b in zip(own, own[1:])):
            return [-2]
        if len(lock) != len(own) or any(taken != sorted(set(taken)) for taken in lock):
            return [-2]
        if any(cut >= depths for taken in lock for cut in taken) or not plain_opens(own, lock):
            return [-2]
        self.start(depths, reach, own, lock)
        return [len(self.keys())]

    def tries(self, key):
        if key not in self.keys():
            return [-2]
        if len(self.tried) == 30:
            return [-5]
        self.tried.append(key)
        return [int(plain_opens(key, self.lock)), 1, len(self.may_be_it())]

    def knows(self):
        locks = self.may_be_it()
        numbers = [len(self.tried)]
        for place in range(len(self.own)):
            cuts = range(self.depths)
            numbers += counted([cut for cut in cuts if all(cut in lock[place] for lock in locks)])
            numbers += counted([cut for cut in cuts if not any(cut in lock[place] for lock in locks)])
        return numbers

    def next_key(self):
        locks = self.may_be_it()
        if len(locks) == 1:
            return [-6]
        best = None
        for key in self.keys():
            opened = sum(plain_opens(key, lock) for lock in locks)
            worst = max(opened, len(locks) - opened)
            if best is None or worst < best[0]:
                best = (worst, key)
        return [best[0], *counted(best[1])]

    def sure(self):
        locks = self.may_be_it()
        keys = [key for key in self.keys() if all(plain_opens(key, lock) for lock in locks)]
        others = [key for key in keys if key != self.own]
        return [len(keys), *counted(others[0] if others else [])]

    def changes(self):
        keys = []
        for place in range(len(self.own)):
            for cut in range(self.depths):
                key = list(self.own)
                key[place] = cut
                if key != self.own:
                    keys.append(key)
        cuttable = [key for key in keys if self.can_be_cut(key)]
        numbers = [len(keys), 1, len(cuttable)]
        for key in cuttable:
            numbers += counted(key)
        return numbers

    def answer(self, call):
        if call[0] == "begins":
            return self.begins(*call[1:])
        if call[0] == "try":
            return self.tries(call[1])
        if call[0] == "left":
            return [len(self.may_be_it())]
        return {"knows": self.knows, "next": self.next_key, "sure": self.sure, "changes": self.changes}[call[0]]()


def plain_answers(calls):
    plain = PlainLine()
    return [plain.answer(call) for call in calls]
