"""The calls on one season, and what they answer."""

BEGINS = 0
KIND = 1
NET = 2

# By a call's number: how many numbers stand behind it.
HOW_MANY = (1, 3, 1, 0)

LARGEST = 1000
MOST_KINDS = 3
MOST_NETS = 4
MOST_DAYS = 5


class Season:
    """What a season holds; each call answers a list, as some answers and refusals have several numbers."""

    def __init__(self):
        self.too_small = 0
        self.kinds = []
        self.nets = []
        self.days = []

    def begins(self, too_small):
        if too_small > LARGEST:
            return [-1]
        self.too_small = too_small
        self.kinds = []
        self.nets = []
        self.days = []
        return [0]

    def kind(self, worth, least, quota):
        if max(worth, least, quota) > LARGEST:
            return [-1]
        if len(self.kinds) == MOST_KINDS:
            return [-5]
        self.kinds.append((worth, least, quota))
        return [len(self.kinds) - 1]

    def net(self, mesh):
        if mesh > LARGEST:
            return [-1]
        if len(self.nets) == MOST_NETS:
            return [-5]
        self.nets.append(mesh)
        return [len(self.nets) - 1]

    def day(self):
        if len(self.days) == MOST_DAYS:
            return [-5]
        # A day is the list of its shoals.
        self.days.append([])
        return [len(self.days) - 1]


def answer_call(season, number, given):
    if number == BEGINS:
        return season.begins(given[0])
    if number == KIND:
        return season.kind(given[0], given[1], given[2])
    if number == NET:
        return season.net(given[0])
    return season.day()


def answers(calls):
    season = Season()
    answered = []
    at = 0
    while at < len(calls):
        number = calls[at]
        behind = at + 1 + HOW_MANY[number]
        answer = answer_call(season, number, calls[at + 1:behind])
        answered.append(len(answer))
        answered.extend(answer)
        at = behind
    return answered
