"""The calls on one season, and what they answer."""

from seasonmeshes.plans import best_answer, check_answer, choices_of_day, plain_answer

BEGINS = 0
KIND = 1
NET = 2
DAY = 3
SHOAL = 4
BEST = 5
PLAIN = 6
CHECK = 7

# By a call's number: how many numbers stand behind it; check tells its own.
HOW_MANY = (1, 3, 1, 0, 3, 0, 0)

LARGEST = 1000
MOST_KINDS = 3
MOST_NETS = 4
MOST_DAYS = 5
MOST_SHOALS = 6


class Season:
    """What a season holds; each call answers a list, as some answers and refusals have several numbers."""

    def __init__(self):
        self.too_small = 0
        self.kinds = []
        self.nets = []
        self.days = []

    def begins(self, too_small):
        if too_small > LARGEST:
            return [-1]
        self.too_small = too_small
        self.kinds = []
        self.nets = []
        self.days = []
        return [0]

    def kind(self, worth, least, quota):
        if max(worth, least, quota) > LARGEST:
            return [-1]
        if len(self.kinds) == MOST_KINDS:
            return [-5]
        self.kinds.append((worth, least, quota))
        return [len(self.kinds) - 1]

    def net(self, mesh):
        if mesh > LARGEST:
            return [-1]
        if len(self.nets) == MOST_NETS:
            return [-5]
        self.nets.append(mesh)
        return [len(self.nets) - 1]

    def day(self):
        if len(self.days) == MOST_DAYS:
            return [-5]
        # A day is the list of its shoals.
        self.days.append([])
        return [len(self.days) - 1]

    def shoal(self, kind, size, many):
        if not self.days:
            return [-2]
        if kind >= len(self.kinds) or min(size, many) < 1 or max(size, many) > LARGEST:
            return [-1]
        shoals = self.days[-1]
        if len(shoals) == MOST_SHOALS:
            return [-5]
        shoals.append((kind, size, many))
        return [len(shoals) - 1]

    def best(self):
        return best_answer(self.choices(), self.limits(), self.worths())

    def plain(self):
        return plain_answer(self.choices(), self.limits(), self.worths())

    def check(self, plan):
        if len(plan) != len(self.days) or max(plan, default=0) > len(self.nets):
            return [-1]
        return check_answer(plan, self.choices(), self.limits(), self.worths())

    def choices(self):
        leasts = [least for worth, least, quota in self.kinds]
        return [choices_of_day(shoals, leasts, self.nets) for shoals in self.days]

    def limits(self):
        return [self.too_small] + [quota for worth, least, quota in self.kinds]

    def worths(self):
        return [0] + [worth for worth, least, quota in self.kinds]


def answer_call(season, number, given):
    if number == BEGINS:
        return season.begins(given[0])
    if number == KIND:
        return season.kind(given[0], given[1], given[2])
    if number == NET:
        return season.net(given[0])
    if number == DAY:
        return season.day()
    if number == SHOAL:
        return season.shoal(given[0], given[1], given[2])
    if number == BEST:
        return season.best()
    if number == PLAIN:
        return season.plain()
    return season.check(given[1:])


def end_of_call(calls, at):
    if calls[at] == CHECK:
        return at + 2 + calls[at + 1]
    return at + 1 + HOW_MANY[calls[at]]


def answers(calls):
    season = Season()
    answered = []
    at = 0
    while at < len(calls):
        end = end_of_call(calls, at)
        answer = answer_call(season, calls[at], calls[at + 1:end])
        answered.append(len(answer))
        answered.extend(answer)
        at = end
    return answered
