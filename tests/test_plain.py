import unittest

from helper import DAYS, KINDS, MESHES, SeasonCase, best, check, day, kind, net, plain, season
from seasonmeshes.season import answers


class Plain(SeasonCase):
    def plain(self, told, wanted):
        self.behind(told, [plain()], [wanted])


class TheNetThatIsChosen(Plain):
    def test_count_and_numbers_in_their_order(self):
        calls = [0, 9, 1, 5, 20, 30, 2, 15, 3, 4, 0, 25, 2, 3, 6]
        self.assertEqual(answers(calls), [1, 0, 1, 0, 1, 0, 1, 0, 1, 0, 1, 1, 3, 10, 0, 0])

    def test_that_days_catch_is_worth_the_most(self):
        self.plain(season(10, KINDS, MESHES, DAYS), [174, 1, 0])

    def test_worth_not_how_many(self):
        told = season(0, [(1, 1, 0), (2, 1, 99), (9, 1, 99)], [10, 20, 0],
                      [[(1, 15, 8), (2, 25, 2)], [(1, 30, 1), (2, 5, 3)]])
        self.plain(told, [34 + 29, 0, 2])

    def test_the_lowest_number_of_several(self):
        told = season(0, [(1, 1, 99)], [20, 5, 4, 5], [[(0, 9, 2)], [(0, 4, 1)], [(0, 25, 1)]])
        self.plain(told, [3, 1, 0, 0])

    def test_changes_do_not_matter(self):
        told = season(9, [(1, 1, 99)], [9, 0], [[(0, 5, 1)], [(0, 20, 1)]])
        self.behind(told, [plain(), best()], [[2, 1, 0], [2, 0, 1, 1, 1]])


class OnlyRightNets(Plain):
    def test_a_net_worth_less_where_the_other_takes_too_many_too_small(self):
        told = season(2, [(1, 10, 99)], [0, 9], [[(0, 5, 3), (0, 9, 1)], [(0, 12, 4)]])
        self.plain(told, [4, 1, 0])

    def test_a_net_worth_less_where_the_other_lands_too_many(self):
        told = season(0, [(1, 1, 5)], [0, 10], [[(0, 5, 4), (0, 15, 2)]])
        self.plain(told, [2, 1])

    def test_just_as_many_as_may_be_are_right(self):
        told = season(3, [(1, 10, 6)], [0, 10], [[(0, 5, 3), (0, 10, 4), (0, 15, 2)]])
        self.plain(told, [6, 0])

    def test_the_days_before_count(self):
        told = season(0, [(1, 1, 6)], [0, 10], [[(0, 5, 2), (0, 15, 2)], [(0, 5, 1), (0, 15, 2)]])
        self.plain(told, [6, 0, 1])

    def test_the_too_small_fish_of_the_days_before_count(self):
        told = season(3, [(1, 10, 99)], [0, 9], [[(0, 5, 2), (0, 9, 1), (0, 10, 1)], [(0, 9, 1), (0, 10, 5)]])
        self.plain(told, [6, 0, 1])

    def test_later_days_do_not_count(self):
        told = season(0, [(1, 1, 10)], [0], [[(0, 9, 8)], [(0, 9, 10)]])
        self.behind(told, [plain(), best()], [[8, 0, 1], [10, 1, 1, 1, 0]])


class TheBoatStays(Plain):
    def test_if_no_net_is_right(self):
        told = season(0, [(1, 1, 5)], [0, 1, 2], [[(0, 9, 6)], [(0, 9, 5)], [(0, 9, 1)]])
        self.plain(told, [5, 3, 0, 3])

    def test_not_where_a_net_takes_nothing(self):
        told = season(0, [(1, 1, 5)], [0, 9], [[(0, 9, 6)], [], [(0, 9, 5)]])
        self.plain(told, [5, 1, 0, 0])

    def test_not_where_a_net_takes_only_too_small_fish(self):
        told = season(3, [(1, 9, 5)], [0, 1], [[(0, 8, 2)], [(0, 8, 2)], [(0, 8, 1)]])
        self.behind(told, [plain(), check(0, 2, 0)], [[0, 0, 2, 0], [0, 2, 3, 0]])

    def test_not_where_a_net_lands_what_is_worth_nothing(self):
        told = season(0, [(0, 1, 5), (4, 1, 5)], [0], [[(0, 9, 5)], [(0, 9, 1), (1, 9, 5)]])
        self.plain(told, [0, 0, 1])


class AgainstBest(SeasonCase):
    def test_the_finest_net_fills_the_quota(self):
        told = season(0, [(2, 1, 10), (9, 1, 5)], [0, 30],
                      [[(0, 20, 9)], [(0, 40, 4), (1, 40, 5)]])
        self.behind(told, [plain(), best()], [[18, 0, 2], [53, 0, 1, 1, 1]])

    def test_too_small_fish_taken_early(self):
        told = season(4, [(1, 10, 99)], [0, 15], [[(0, 5, 4), (0, 12, 1), (0, 20, 6)], [(0, 8, 1), (0, 11, 9)]])
        self.behind(told, [plain(), best()], [[7, 0, 1], [15, 1, 1, 1, 0]])


class LittleOrNothing(Plain):
    def test_without_anything(self):
        self.plain([], [0])

    def test_without_days(self):
        self.plain(season(10, KINDS, MESHES, []), [0])

    def test_without_nets(self):
        self.plain(season(10, KINDS, [], DAYS), [0, 0, 0])

    def test_without_kinds(self):
        self.plain([net(), net(), day(), day()], [0, 0, 0])

    def test_without_shoals(self):
        self.plain([kind(quota=0), net(), net(), day(), day()], [0, 0, 0])


if __name__ == "__main__":
    unittest.main()
