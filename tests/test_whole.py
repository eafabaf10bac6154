import contextlib
import io
import itertools
import sys
import unittest

from helper import (DAYS, KINDS, MESHES, SeasonCase, begins, best, check, day, each_answer, joined, kind, net, plain,
                    season, shoal)
from seasonmeshes.season import answers


class Numbers:
    """Numbers that look mixed and are the same each time."""

    def __init__(self):
        self.last = 20261118

    def below(self, bound):
        self.last = (self.last * 1103515245 + 12345) % 2147483648
        return self.last // 65536 % bound


class Told:
    """A season reckoned fish by fish and plan by plan, as the document's words stand."""

    def __init__(self, too_small, kinds, meshes, days):
        self.too_small = too_small
        self.kinds = kinds
        self.meshes = meshes
        self.days = days

    def calls(self):
        return season(self.too_small, self.kinds, self.meshes, self.days)

    def plans(self):
        return itertools.product(range(len(self.meshes) + 1), repeat=len(self.days))

    def taken(self, plan):
        return [told for number, shoals in zip(plan, self.days) if number < len(self.meshes)
                for told in shoals if told[1] > self.meshes[number]]

    def small(self, plan):
        return sum(many for kind, size, many in self.taken(plan) if size < self.kinds[kind][1])

    def landed(self, plan):
        return [sum(many for kind, size, many in self.taken(plan) if kind == one and size >= told[1])
                for one, told in enumerate(self.kinds)]

    def over(self, plan):
        return [[kind, many] for kind, many in enumerate(self.landed(plan)) if many > self.kinds[kind][2]]

    def is_right(self, plan):
        return self.small(plan) <= self.too_small and not self.over(plan)

    def worth(self, plan):
        return sum(many * told[0] for many, told in zip(self.landed(plan), self.kinds))

    def changes(self, plan):
        return sum(one != other for one, other in zip(plan, plan[1:]))

    def check(self, plan):
        if self.small(plan) > self.too_small:
            return [-6, self.small(plan)]
        if self.over(plan):
            return [-7] + self.over(plan)[0]
        return [self.worth(plan), self.changes(plan), self.small(plan)] + self.landed(plan)

    def best(self):
        ranked = sorted((-self.worth(plan), self.changes(plan), plan) for plan in self.plans() if self.is_right(plan))
        as_good = [one for one in ranked if one[:2] == ranked[0][:2]]
        return [-ranked[0][0], ranked[0][1], len(as_good)] + list(ranked[0][2])

    def plain(self):
        plan = ()
        for shoals in self.days:
            right = [net for net in range(len(self.meshes)) if self.is_right(plan + (net,))]
            # What the days before are worth is the same for all of these.
            plan += (min(right, key=lambda net: -self.worth(plan + (net,)), default=len(self.meshes)),)
        return [self.worth(plan)] + list(plan)


def mixed_season(numbers):
    # Some seasons lack something; the others have enough of all for plans to be weighed against one another.
    fewest = numbers.below(3)
    kinds = [(numbers.below(10), numbers.below(8), numbers.below(20))
             for turn in range(min(3, fewest + numbers.below(3)))]
    meshes = [numbers.below(9) for turn in range(fewest + numbers.below(3))]
    most = 1 + numbers.below(6)
    days = [[(numbers.below(len(kinds)), 1 + numbers.below(9), 1 + numbers.below(most))
             for turn in range(numbers.below(7) if kinds else 0)]
            for turn in range(fewest + numbers.below(3))]
    return Told(numbers.below(20), kinds, meshes, days)


class AgainstEveryPlan(SeasonCase):
    def seasons(self):
        numbers = Numbers()
        return [mixed_season(numbers) for turn in range(300)]

    def test_best_and_plain(self):
        for told in self.seasons():
            with self.subTest(calls=told.calls()):
                self.behind(told.calls(), [best(), plain()], [told.best(), told.plain()])

    def test_check_of_every_plan(self):
        for told in self.seasons():
            for plan in told.plans():
                with self.subTest(calls=told.calls(), plan=plan):
                    self.behind(told.calls(), [check(*plan)], [told.check(plan)])

    def test_no_right_plan_is_worth_more_than_best(self):
        for told in self.seasons():
            most = each_answer(told.calls() + [best()])[-1][0]
            for plan in told.plans():
                answer = each_answer(told.calls() + [check(*plan)])[-1]
                self.assertLessEqual(answer[0], most)

    def test_best_and_plain_are_as_check_says(self):
        for told in self.seasons():
            good, simple = each_answer(told.calls() + [best(), plain()])[-2:]
            checked = each_answer(told.calls() + [check(*good[3:]), check(*simple[1:])])[-2:]
            self.assertEqual(checked[0][:2], good[:2])
            self.assertEqual(checked[1][0], simple[0])

    def test_the_seasons_differ_as_they_should(self):
        seasons = self.seasons()
        checks = [told.check(plan)[0] for told in seasons for plan in told.plans()]
        self.assertGreater(checks.count(-6), 100)
        self.assertGreater(checks.count(-7), 100)
        self.assertGreater(sum(told.plain()[0] < told.best()[0] for told in seasons), 5)
        self.assertGreater(sum(told.best()[2] > 1 for told in seasons), 20)
        self.assertEqual({len(told.days) for told in seasons}, {0, 1, 2, 3, 4})
        self.assertEqual({len(told.kinds) for told in seasons}, {0, 1, 2, 3})
        self.assertEqual({len(told.meshes) for told in seasons}, {0, 1, 2, 3, 4})


class TheSeasonStays(SeasonCase):
    told = season(3, KINDS, MESHES, DAYS)
    asked = [best(), plain(), check(1, 0), check(1, 1), check(0)]
    wanted = [[174, 1, 1, 1, 0], [174, 1, 0], [174, 1, 3, 30, 12], [-6, 10], [-1]]

    def test_as_it_was_behind_best_plain_and_check(self):
        self.behind(self.told, self.asked * 3, self.wanted * 3)

    def test_in_whatever_order(self):
        for order in itertools.permutations(range(len(self.asked))):
            self.behind(self.told, [self.asked[turn] for turn in order], [self.wanted[turn] for turn in order])

    def test_told_on_behind_them(self):
        self.behind(self.told, self.asked + [shoal(1, 30, 1), kind(), net(), day(), shoal(2)],
                    self.wanted + [[3], [2], [2], [2], [0]])

    def test_what_is_told_behind_them_counts(self):
        more = [shoal(1, 30, 1), net(24), begins(1001), check(1, 0), best()]
        self.behind(self.told, self.asked + more,
                    self.wanted + [[3], [2], [-1], [-7, 1, 13], [160, 0, 1, 0, 0]])

    def test_a_refused_begins_leaves_the_shoals(self):
        self.behind(self.told, [begins(1001)] + self.asked, [[-1]] + self.wanted)


class BeginsAnew(SeasonCase):
    told = TheSeasonStays.told

    def test_without_what_was_before(self):
        self.behind(self.told, [best(), begins(3), best(), plain(), check(), check(1, 0)],
                    [[174, 1, 1, 1, 0], [0], [0, 0, 1], [0], [0, 0, 0], [-1]])

    def test_without_the_shoals_of_before(self):
        again = [kind(5, 20, 30), kind(2, 10, 12), net(15), net(5), day(), day()]
        self.behind(self.told, [plain(), begins(3)] + again + [best(), check(1, 0), shoal()],
                    [[174, 1, 0], [0], [0], [1], [0], [1], [0], [1], [0, 0, 3, 0, 0], [0, 1, 0, 0, 0], [0]])

    def test_the_same_season_twice(self):
        self.behind(self.told, [best()] + self.told + [best()],
                    [[174, 1, 1, 1, 0]] + each_answer(self.told) + [[174, 1, 1, 1, 0]])

    def test_with_another_number_of_too_small_fish(self):
        self.behind(self.told, [check(1, 1)] + [begins(10)] + self.told[1:] + [check(1, 1)],
                    [[-6, 10]] + each_answer(self.told) + [[174, 0, 10, 30, 12]])


class AnyCallFirst(SeasonCase):
    def test_the_season_is_empty(self):
        for first, wanted in ((best(), [0, 0, 1]), (plain(), [0]), (check(), [0, 0, 0]), (check(0), [-1]),
                              (shoal(), [-2]), (day(), [0])):
            self.behind([], [first], [wanted])


class UnchangingList(list):
    """A list that fails at every change, one that is taken back included."""

    def refuse(self, *numbers, **named):
        raise AssertionError("the list that was handed in was changed")

    append = clear = extend = insert = pop = remove = reverse = sort = refuse
    __setitem__ = __delitem__ = __iadd__ = __imul__ = refuse


class WhatIsHandedIn(unittest.TestCase):
    calls = joined([shoal(), check(), kind(), begins(6), kind(worth=1001)] + TheSeasonStays.told
                   + TheSeasonStays.asked + [shoal(many=0), begins(1001), net(), day(), best(), check(0, 1, 2)])

    def test_is_the_same_afterwards(self):
        handed_in = list(self.calls)
        answers(handed_in)
        self.assertEqual(handed_in, self.calls)

    def test_is_not_changed_for_a_while_either(self):
        self.assertEqual(answers(UnchangingList(self.calls)), answers(self.calls))

    def test_asked_twice_answers_the_same_twice(self):
        first = answers(self.calls)
        kept = list(first)
        second = answers(self.calls)
        self.assertEqual(first, second)
        first.clear()
        self.assertEqual(second, kept)
        self.assertEqual(answers(self.calls), kept)

    def test_nothing_is_kept_from_another_list(self):
        answers(self.calls)
        self.assertEqual(answers([5]), [3, 0, 0, 1])
        self.assertEqual(answers(joined([kind(), net(), day(), shoal()])), [1, 0, 1, 0, 1, 0, 1, 0])

    def test_answers_are_a_list_of_whole_numbers(self):
        answered = answers(self.calls)
        self.assertIs(type(answered), list)
        self.assertEqual({type(number) for number in answered}, {int})

    def test_prints_and_imports_nothing(self):
        modules = sorted(sys.modules)
        printed = io.StringIO()
        with contextlib.redirect_stdout(printed), contextlib.redirect_stderr(printed):
            answers(self.calls)
        self.assertEqual(printed.getvalue(), "")
        self.assertEqual(sorted(sys.modules), modules)


if __name__ == "__main__":
    unittest.main()
