import unittest

from seasonmeshes.season import answers

LARGEST_NUMBER = 4294967295

# A season's numbers for several tests. By day and net, how many are too small, then how many are landed of each kind:
# day 0: net 0: 3, 12, 0; net 1: 3, 12, 8. day 1: net 0: 0, 18, 4; net 1: 7, 18, 4.
KINDS = [(5, 20, 30), (2, 10, 12)]
MESHES = [15, 5]
DAYS = [[(0, 25, 12), (1, 10, 8), (0, 16, 3)], [(0, 20, 18), (1, 9, 7), (1, 30, 4)]]


def begins(too_small):
    return [0, too_small]


def kind(worth=5, least=20, quota=30):
    return [1, worth, least, quota]


def net(mesh=10):
    return [2, mesh]


def day():
    return [3]


def shoal(kind=0, size=25, many=4):
    return [4, kind, size, many]


def best():
    return [5]


def plain():
    return [6]


def check(*plan):
    return [7, len(plan), *plan]


def joined(calls):
    return [number for call in calls for number in call]


def season(too_small, kinds, meshes, days):
    """The calls that tell a season; kinds and shoals are told by their numbers, a day by its shoals."""
    calls = [begins(too_small)] + [kind(*told) for told in kinds] + [net(mesh) for mesh in meshes]
    for shoals in days:
        calls += [day()] + [shoal(*told) for told in shoals]
    return calls


def each_answer(calls):
    """What each of the calls is answered, without the counts."""
    numbers = answers(joined(calls))
    apart = []
    at = 0
    while at < len(numbers):
        behind = at + 1 + numbers[at]
        apart.append(numbers[at + 1:behind])
        at = behind
    if len(apart) != len(calls) or joined([[len(one), *one] for one in apart]) != numbers:
        raise AssertionError(f"not one answer for each call: {numbers}")
    return apart


class SeasonCase(unittest.TestCase):
    def check(self, calls, wanted):
        """Each of the calls is answered by the one wanted number, with the count 1 ahead of it."""
        self.assertEqual(answers(joined(calls)), joined([[1, number] for number in wanted]))

    def behind(self, told, asked, wanted):
        """Behind the calls that tell a season, each call that is asked is answered as wanted."""
        self.assertEqual(each_answer(told + asked)[len(told):], wanted)
