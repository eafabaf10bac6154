import time
import unittest

from helper import DAYS, KINDS, MESHES, SeasonCase, best, check, day, kind, net, season, shoal
from seasonmeshes.season import answers


class Best(SeasonCase):
    def best(self, told, wanted):
        self.behind(told, [best()], [wanted])


class WorthTheMost(Best):
    def test_count_and_numbers_in_their_order(self):
        calls = [0, 9, 1, 5, 20, 30, 2, 15, 3, 4, 0, 25, 2, 5]
        self.assertEqual(answers(calls), [1, 0, 1, 0, 1, 0, 1, 0, 1, 0, 4, 10, 0, 1, 0])

    def test_goes_ahead_of_fewer_changes(self):
        self.best(season(9, KINDS, MESHES, DAYS), [174, 1, 1, 1, 0])

    def test_only_right_plans(self):
        self.best(season(2, KINDS, MESHES, DAYS), [98, 1, 1, 2, 0])
        self.best(season(10, [(5, 20, 30), (2, 10, 11)], MESHES, DAYS), [158, 0, 1, 0, 0])
        self.best(season(10, [(5, 20, 29), (2, 10, 12)], MESHES, DAYS), [98, 1, 2, 2, 0])

    def test_landed_fish_of_the_kind_worth_more(self):
        told = season(0, [(1, 1, 100), (7, 1, 5)], [0, 20], [[(0, 10, 30), (1, 10, 1), (1, 30, 5)]])
        self.best(told, [35, 0, 1, 1])

    def test_a_quota_kept_for_a_later_day(self):
        self.best(season(0, [(3, 1, 10)], [0], [[(0, 9, 8)], [(0, 9, 10)]]), [30, 1, 1, 1, 0])

    def test_the_coarser_net_leaves_room(self):
        told = season(0, [(1, 1, 10)], [10, 40], [[(0, 20, 7), (0, 50, 3)], [(0, 50, 7)]])
        self.best(told, [10, 0, 1, 1, 1])

    def test_too_small_fish_are_worth_nothing(self):
        self.best(season(1000, [(1000, 9, 9)], [0], [[(0, 8, 9)]]), [0, 0, 2, 0])


class FewerChanges(Best):
    def test_of_plans_worth_as_much(self):
        self.best(season(10, KINDS, MESHES, DAYS), [174, 0, 1, 1, 1])

    def test_a_later_plan_with_fewer_changes_is_better(self):
        told = season(0, [(1, 1, 99)], [20, 0], [[(0, 30, 2)], [(0, 9, 1)]])
        self.best(told, [3, 0, 1, 1, 1])

    def test_an_earlier_plan_with_fewer_changes_is_better(self):
        told = season(0, [(1, 1, 99)], [0, 20], [[(0, 9, 2)], [(0, 30, 1)]])
        self.best(told, [3, 0, 1, 0, 0])

    def test_staying_at_the_end_in_place_of_the_middle(self):
        told = season(0, [(1, 1, 2)], [0], [[(0, 9, 1)], [(0, 9, 2)], [(0, 9, 1)], [(0, 9, 2)]])
        self.best(told, [2, 1, 1, 1, 1, 1, 0])


class AsGood(Best):
    def test_nets_of_the_same_mesh(self):
        told = season(0, [(4, 1, 99)], [5, 5, 8], [[(0, 9, 1)], [(0, 7, 1)]])
        self.best(told, [8, 0, 2, 0, 0])

    def test_the_earliest_of_them(self):
        told = season(0, [(1, 1, 20)], [0], [[(0, 9, 10)]] * 3)
        self.best(told, [20, 1, 2, 0, 0, 1])

    def test_the_earliest_is_told_by_the_first_day_that_differs(self):
        told = season(0, [(1, 1, 3)], [0, 0], [[(0, 9, 3)], [(0, 7, 3)]])
        self.best(told, [3, 1, 4, 0, 2])

    def test_nets_and_staying(self):
        self.best([kind(), net(), net(), day()], [0, 0, 3, 0])

    def test_counted_anew_where_a_better_one_is_found(self):
        told = season(0, [(1, 1, 99)], [9, 9, 9, 0], [[(0, 5, 1)]])
        self.best(told, [1, 0, 1, 3])

    def test_only_right_ones_are_counted(self):
        told = season(1, [(1, 6, 99)], [6, 5, 4, 0], [[(0, 7, 1), (0, 4, 1), (0, 2, 1)]])
        self.best(told, [1, 0, 3, 0])

    def test_one_net_each_day_of_four_alike(self):
        told = season(0, [(1, 1, 99)], [0, 0, 0, 0], [[(0, 5, 1)]] * 5)
        self.best(told, [5, 0, 4, 0, 0, 0, 0, 0])


class LittleOrNothing(Best):
    def test_without_anything(self):
        self.best([], [0, 0, 1])

    def test_without_days(self):
        self.best(season(10, KINDS, MESHES, []), [0, 0, 1])

    def test_without_nets(self):
        self.best(season(10, KINDS, [], DAYS), [0, 0, 1, 0, 0])

    def test_without_kinds(self):
        self.best([net(), net(), day(), day()], [0, 0, 3, 0, 0])

    def test_without_shoals(self):
        self.best(season(0, KINDS, MESHES, [[], [], []]), [0, 0, 3, 0, 0, 0])

    def test_only_staying_is_right(self):
        self.best(season(0, [(5, 1, 0)], [0, 1], [[(0, 9, 1)]] * 3), [0, 0, 1, 2, 2, 2])
        self.best(season(0, [(5, 10, 9)], [0, 1], [[(0, 9, 1)]] * 2), [0, 0, 1, 2, 2])


class LargeSeasons(SeasonCase):
    # Every plan is right, so that none can be left out early.
    days = [[(0, 10, 1), (1, 30, 2), (2, 50, 3)], [(2, 10, 3), (0, 30, 2), (1, 50, 1)],
            [(1, 40, 9)], [(2, 20, 4), (0, 40, 5)], [(0, 15, 1), (2, 35, 6)]]
    told = season(1000, [(3, 20, 1000), (5, 35, 1000), (2, 10, 1000)], [45, 25, 12, 5], days)

    def test_five_days_with_four_nets(self):
        # Net 3 lands all that may be landed; net 2 loses kind 2 of day 1, the others lose more.
        self.behind(self.told, [best(), check(3, 3, 3, 3, 3)],
                    [[103, 0, 1, 3, 3, 3, 3, 3], [103, 0, 4, 7, 10, 16]])

    def test_sixty_calls_most_of_them_best(self):
        asked = [best()] * (60 - len(self.told))
        begun = time.process_time()
        self.behind(self.told, asked, [[103, 0, 1, 3, 3, 3, 3, 3]] * len(asked))
        self.assertLess(time.process_time() - begun, 5)

    def test_sixty_calls_where_all_plans_are_right_and_as_much_worth(self):
        told = [kind(), kind(), kind()] + [net()] * 4 + [day()] * 5
        asked = [best()] * 48
        begun = time.process_time()
        self.behind(told, asked, [[0, 0, 5, 0, 0, 0, 0, 0]] * 48)
        self.assertLess(time.process_time() - begun, 5)

    def test_the_most_that_a_catch_can_be_worth(self):
        told = season(1000, [(1000, 1, 1000)] * 3, [0] * 4, [[(0, 9, 200), (1, 9, 200), (2, 9, 200)]] * 5)
        self.behind(told, [best()], [[3000000, 0, 4, 0, 0, 0, 0, 0]])

    def test_thirty_shoals(self):
        told = season(0, [(1, 1, 1000)], [0] * 4, [[(0, 9, 1)] * 6] * 5)
        self.behind(told, [best(), shoal()], [[30, 0, 4, 0, 0, 0, 0, 0], [-5]])


if __name__ == "__main__":
    unittest.main()
