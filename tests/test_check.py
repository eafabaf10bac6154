import unittest

from helper import DAYS, KINDS, LARGEST_NUMBER, MESHES, SeasonCase, begins, check, day, kind, net, season
from seasonmeshes.season import answers


class WhatANetTakes(SeasonCase):
    def test_larger_than_its_mesh_not_just_as_large(self):
        told = season(0, [(1, 1, 1000)], [49, 50, 51], [[(0, 50, 6)]])
        self.behind(told, [check(0), check(1), check(2)], [[6, 0, 0, 6], [0, 0, 0, 0], [0, 0, 0, 0]])

    def test_a_mesh_of_0_and_of_1000(self):
        told = season(0, [(1, 1, 1000)], [0, 999, 1000], [[(0, 1, 1), (0, 1000, 2)]])
        self.behind(told, [check(0), check(1), check(2)], [[3, 0, 0, 3], [2, 0, 0, 2], [0, 0, 0, 0]])

    def test_just_as_large_as_the_least_is_landed(self):
        told = season(1000, [(1, 50, 1000)], [0], [[(0, 49, 1), (0, 50, 10), (0, 51, 100)]])
        self.behind(told, [check(0)], [[110, 0, 1, 110]])

    def test_a_least_of_0_and_of_1000(self):
        told = season(1000, [(1, 0, 1000), (1, 1000, 1000)], [0],
                      [[(0, 1, 1), (1, 999, 10), (1, 1000, 100)]])
        self.behind(told, [check(0)], [[101, 0, 10, 1, 100]])

    def test_each_kind_has_a_least_of_its_own(self):
        told = season(1000, [(1, 30, 1000), (1, 10, 1000), (1, 20, 1000)], [0],
                      [[(0, 20, 1), (1, 20, 10), (2, 20, 100)]])
        self.behind(told, [check(0)], [[110, 0, 1, 0, 10, 100]])

    def test_shoals_of_one_kind_are_taken_together(self):
        told = season(1000, [(3, 10, 1000)], [0], [[(0, 10, 1), (0, 9, 2), (0, 10, 4), (0, 9, 8), (0, 99, 16)]])
        self.behind(told, [check(0)], [[63, 0, 10, 21]])


class RightPlans(SeasonCase):
    told = season(10, KINDS, MESHES, DAYS)

    def test_count_and_numbers_in_their_order(self):
        calls = [0, 9, 1, 5, 20, 30, 2, 15, 3, 4, 0, 25, 2, 4, 0, 19, 3, 7, 1, 0]
        self.assertEqual(answers(calls), [1, 0, 1, 0, 1, 0, 1, 0, 1, 0, 1, 1, 4, 10, 0, 3, 2])

    def test_with_nets_on_all_days(self):
        self.behind(self.told, [check(0, 0), check(0, 1), check(1, 0), check(1, 1)],
                    [[158, 0, 3, 30, 4], [158, 1, 10, 30, 4], [174, 1, 3, 30, 12], [174, 0, 10, 30, 12]])

    def test_the_boat_stays_on_some_days(self):
        self.behind(self.told, [check(2, 0), check(2, 1), check(0, 2), check(1, 2)],
                    [[98, 1, 0, 18, 4], [98, 1, 7, 18, 4], [60, 1, 3, 12, 0], [76, 1, 3, 12, 8]])

    def test_the_boat_stays_on_all_days(self):
        self.behind(self.told, [check(2, 2)], [[0, 0, 0, 0, 0]])

    def test_without_days(self):
        self.behind([], [check()], [[0, 0, 0]])
        self.behind(season(10, KINDS, MESHES, []), [check()], [[0, 0, 0, 0, 0]])

    def test_without_nets(self):
        self.behind(season(10, KINDS, [], DAYS), [check(0, 0), check(0, 1)], [[0, 0, 0, 0, 0], [-1]])

    def test_without_kinds(self):
        self.behind([net(), day(), day(), day()], [check(0, 1, 0), check(1, 1, 1)], [[0, 2, 0], [0, 0, 0]])

    def test_without_shoals(self):
        self.behind(season(0, [(5, 20, 0)], MESHES, [[], []]), [check(0, 1)], [[0, 1, 0, 0]])

    def test_a_net_told_behind_the_days(self):
        self.behind(self.told + [net(24)], [check(2, 2), check(2, 3), check(3, 3), check(4, 4)],
                    [[68, 0, 0, 12, 4], [60, 1, 0, 12, 0], [0, 0, 0, 0, 0], [-1]])

    def test_a_kind_told_behind_the_days(self):
        self.behind(self.told + [kind(9, 9, 9)], [check(1, 0)], [[174, 1, 3, 30, 12, 0]])

    def test_worth_nothing(self):
        self.behind(season(0, [(0, 1, 9)], [0], [[(0, 5, 9)]]), [check(0)], [[0, 0, 0, 9]])

    def test_the_most_fish(self):
        told = season(1000, [(1000, 1, 1000)] * 3, [0], [[(0, 9, 1000), (1, 9, 1000), (2, 9, 1000)]])
        self.behind(told, [check(0)], [[3000000, 0, 0, 1000, 1000, 1000]])


class Changes(SeasonCase):
    told = [net(), net(), net()] + [day()] * 5

    def changes(self, plan, wanted):
        self.behind(self.told, [check(*plan)], [[0, wanted, 0]])

    def test_between_days_one_right_behind_the_other(self):
        self.changes((1, 1, 1, 1, 1), 0)
        self.changes((1, 1, 1, 1, 2), 1)
        self.changes((0, 1, 1, 1, 1), 1)
        self.changes((0, 1, 1, 1, 0), 2)
        self.changes((2, 1, 0, 0, 2), 3)
        self.changes((0, 1, 0, 1, 0), 4)

    def test_staying_is_a_change_too(self):
        self.changes((3, 0, 3, 3, 1), 3)
        self.changes((3, 3, 3, 3, 3), 0)

    def test_nets_of_the_same_mesh_are_a_change(self):
        self.changes((0, 0, 1, 1, 2), 2)

    def test_of_one_day(self):
        self.behind([day()], [check(0)], [[0, 0, 0]])


class NotAPlan(SeasonCase):
    told = season(10, KINDS, MESHES, DAYS)

    def test_too_short(self):
        self.behind(self.told, [check(), check(0), check(2)], [[-1]] * 3)

    def test_too_long(self):
        self.behind(self.told, [check(0, 0, 0), check(2, 2, 2), check(*[2] * 12)], [[-1]] * 3)
        self.behind([], [check(0), check(*[0] * 12)], [[-1]] * 2)

    def test_a_number_above_the_number_of_nets(self):
        self.behind(self.told, [check(3, 0), check(0, 3), check(LARGEST_NUMBER, 2), check(2, LARGEST_NUMBER)],
                    [[-1]] * 4)

    def test_both(self):
        self.behind(self.told, [check(3), check(3, 3, 3), check(*[LARGEST_NUMBER] * 12)], [[-1]] * 3)

    def test_goes_ahead_of_a_plan_that_is_not_right(self):
        self.behind(season(0, [(5, 20, 0)], MESHES, DAYS[:1]), [check(0), check(0, 0), check(3)],
                    [[-6, 3], [-1], [-1]])

    def test_the_calls_behind_it_are_read_on(self):
        self.behind(self.told, [check(*[5] * 12), check(), check(3, 3, 3), check(1, 0), day()],
                    [[-1], [-1], [-1], [174, 1, 3, 30, 12], [2]])


class TooManyTooSmall(SeasonCase):
    def test_just_as_many_as_may_be_are_right(self):
        told = season(10, KINDS, MESHES, DAYS)
        self.behind(told, [check(1, 1)], [[174, 0, 10, 30, 12]])

    def test_one_more_is_refused_with_how_many(self):
        told = season(9, KINDS, MESHES, DAYS)
        self.behind(told, [check(1, 1), check(0, 1), check(1, 0)], [[-6, 10], [-6, 10], [174, 1, 3, 30, 12]])

    def test_at_the_beginning_none_may_be_taken(self):
        told = season(10, KINDS, MESHES, DAYS)[1:]
        self.behind(told, [check(0, 2), check(2, 1), check(2, 0)], [[-6, 3], [-6, 7], [98, 1, 0, 18, 4]])

    def test_of_all_kinds_together(self):
        told = season(5, [(1, 9, 9)] * 3, [0], [[(0, 8, 1), (1, 8, 2), (2, 8, 3)]])
        self.behind(told, [check(0)], [[-6, 6]])

    def test_goes_ahead_of_too_many_landed(self):
        told = season(9, [(5, 20, 0), (2, 10, 0)], MESHES, DAYS)
        self.behind(told, [check(1, 1), check(0, 0)], [[-6, 10], [-7, 0, 30]])

    def test_a_refused_begins_leaves_how_many_may_be(self):
        told = season(10, KINDS, MESHES, DAYS) + [begins(1001)]
        self.behind(told, [check(1, 1)], [[174, 0, 10, 30, 12]])

    def test_1000_may_be(self):
        told = season(1000, [(1, 9, 9)], [0], [[(0, 8, 1000)], [(0, 8, 1)]])
        self.behind(told, [check(0, 1), check(0, 0)], [[0, 1, 1000, 0], [-6, 1001]])


class TooManyLanded(SeasonCase):
    def test_just_as_many_as_the_quota_are_right(self):
        told = season(10, [(5, 20, 30), (2, 10, 12)], MESHES, DAYS)
        self.behind(told, [check(1, 0)], [[174, 1, 3, 30, 12]])

    def test_one_more_is_refused_with_kind_and_how_many(self):
        self.behind(season(10, [(5, 20, 29), (2, 10, 12)], MESHES, DAYS), [check(1, 0)], [[-7, 0, 30]])
        self.behind(season(10, [(5, 20, 30), (2, 10, 11)], MESHES, DAYS), [check(1, 0)], [[-7, 1, 12]])

    def test_the_first_kind_of_several(self):
        told = season(0, [(1, 1, 9), (1, 1, 5), (1, 1, 1)], [0], [[(2, 9, 8), (1, 9, 7), (0, 9, 9)]])
        self.behind(told, [check(0), check(1)], [[-7, 1, 7], [0, 0, 0, 0, 0, 0]])

    def test_the_last_kind(self):
        told = season(0, [(1, 1, 9), (1, 1, 7), (1, 1, 7)], [0], [[(2, 9, 8), (1, 9, 7), (0, 9, 9)]])
        self.behind(told, [check(0)], [[-7, 2, 8]])

    def test_too_small_fish_do_not_count(self):
        told = season(9, [(1, 20, 4)], [0], [[(0, 19, 9), (0, 20, 4)]])
        self.behind(told, [check(0)], [[4, 0, 9, 4]])

    def test_a_quota_of_0(self):
        told = season(0, [(1, 1, 0)], [0, 9], [[(0, 9, 1)]])
        self.behind(told, [check(0), check(1), check(2)], [[-7, 0, 1], [0, 0, 0, 0], [0, 0, 0, 0]])

    def test_over_all_days(self):
        told = season(0, [(1, 1, 1000)], [0], [[(0, 9, 1000)] * 6] * 5)
        self.behind(told, [check(*[0] * 5)], [[-7, 0, 30000]])


if __name__ == "__main__":
    unittest.main()
