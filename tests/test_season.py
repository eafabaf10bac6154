import unittest

from helper import LARGEST_NUMBER, SeasonCase, begins, day, joined, kind, net
from seasonmeshes.season import Season, answers

TAKEN = (0, 1, 999, 1000)
REFUSED = (1001, 1002, LARGEST_NUMBER)
FULL = [kind()] * 3 + [net()] * 4 + [day()] * 5
FULL_ANSWERS = [0, 1, 2, 0, 1, 2, 3, 0, 1, 2, 3, 4]


class OrdinaryCalls(SeasonCase):
    def test_begins_answers_0(self):
        self.assertEqual(answers([0, 7]), [1, 0])

    def test_kinds_are_numbered_from_0(self):
        self.assertEqual(answers([1, 5, 20, 30, 1, 6, 21, 31, 1, 5, 20, 30]), [1, 0, 1, 1, 1, 2])

    def test_nets_are_numbered_from_0(self):
        self.assertEqual(answers([2, 10, 2, 30, 2, 20, 2, 10]), [1, 0, 1, 1, 1, 2, 1, 3])

    def test_days_are_numbered_from_0(self):
        self.assertEqual(answers([3, 3, 3, 3, 3]), [1, 0, 1, 1, 1, 2, 1, 3, 1, 4])

    def test_kinds_nets_and_days_are_counted_apart(self):
        self.check([begins(3), day(), kind(), net(), net(), kind(), day(), net(), day()],
                   [0, 0, 0, 0, 1, 1, 1, 2, 2])

    def test_numbers_that_look_like_calls_are_not_called(self):
        self.check([begins(3), kind(0, 1, 2), net(3), kind(3, 3, 3), net(0), day()], [0, 0, 0, 1, 1, 0])

    def test_answers_are_a_list_of_whole_numbers(self):
        answered = answers(joined([begins(1)] + FULL + FULL + [begins(1001)]))
        self.assertIs(type(answered), list)
        self.assertEqual({type(number) for number in answered}, {int})

    def test_sixty_calls(self):
        self.check(FULL + [day()] * 48, FULL_ANSWERS + [-5] * 48)


class WhatTheSeasonHolds(unittest.TestCase):
    def held(self, season):
        return season.too_small, season.kinds, season.nets, season.days

    def filled(self):
        season = Season()
        season.begins(9)
        season.kind(1, 2, 3)
        season.net(4)
        season.day()
        return season

    def test_at_its_beginning_nothing(self):
        self.assertEqual(self.held(Season()), (0, [], [], []))

    def test_what_the_calls_told(self):
        self.assertEqual(self.held(self.filled()), (9, [(1, 2, 3)], [4], [[]]))

    def test_begins_leaves_only_its_own_number(self):
        season = self.filled()
        season.begins(8)
        self.assertEqual(self.held(season), (8, [], [], []))

    def test_a_refusal_changes_nothing(self):
        season = self.filled()
        season.begins(1001)
        season.kind(1001, 0, 0)
        season.net(1001)
        self.assertEqual(self.held(season), self.held(self.filled()))

    def test_a_refusal_for_want_of_room_changes_nothing(self):
        season = Season()
        for turn in range(6):
            season.kind(turn, turn, turn)
            season.net(turn)
            season.day()
        self.assertEqual(self.held(season), (0, [(0, 0, 0), (1, 1, 1), (2, 2, 2)], [0, 1, 2, 3], [[]] * 5))

    def test_each_day_has_shoals_of_its_own(self):
        season = Season()
        season.day()
        season.day()
        self.assertIsNot(season.days[0], season.days[1])


class Ranges(SeasonCase):
    def each_number(self, number):
        return [begins(number), kind(worth=number), kind(least=number), kind(quota=number), net(number)]

    def test_up_to_1000_is_taken(self):
        for number in TAKEN:
            for call in self.each_number(number):
                with self.subTest(call=call):
                    self.check([call], [0])

    def test_above_1000_is_refused(self):
        for number in REFUSED:
            for call in self.each_number(number):
                with self.subTest(call=call):
                    self.check([call], [-1])

    def test_all_numbers_of_a_kind_at_an_edge(self):
        self.check([kind(0, 0, 0), kind(1000, 1000, 1000), kind(1001, 1001, 1001), kind(1000, 1000, 1000)],
                   [0, 1, -1, 2])


class Room(SeasonCase):
    def test_three_kinds(self):
        self.check([kind()] * 5, [0, 1, 2, -5, -5])

    def test_four_nets(self):
        self.check([net()] * 6, [0, 1, 2, 3, -5, -5])

    def test_five_days(self):
        self.check([day()] * 7, [0, 1, 2, 3, 4, -5, -5])

    def test_a_full_season(self):
        self.check(FULL + [kind(), net(), day()], FULL_ANSWERS + [-5, -5, -5])

    def test_full_of_one_has_room_for_the_others(self):
        self.check([kind()] * 4 + [net()] * 5 + [day()], [0, 1, 2, -5, 0, 1, 2, 3, -5, 0])
        self.check([day()] * 6 + [net(), kind()], [0, 1, 2, 3, 4, -5, 0, 0])


class SeveralRefusals(SeasonCase):
    def test_kind_above_1000_where_there_are_three(self):
        for number in REFUSED:
            calls = [kind(worth=number), kind(least=number), kind(quota=number), kind()]
            self.check([kind()] * 3 + calls, [0, 1, 2, -1, -1, -1, -5])

    def test_net_above_1000_where_there_are_four(self):
        for number in REFUSED:
            self.check([net()] * 4 + [net(number), net(1000)], [0, 1, 2, 3, -1, -5])


class AfterARefusal(SeasonCase):
    def test_a_refused_kind_is_no_kind(self):
        for refused in (kind(worth=1001), kind(least=1001), kind(quota=1001)):
            self.check([refused, kind(), refused, kind(), refused, kind(), kind()], [-1, 0, -1, 1, -1, 2, -5])

    def test_a_refused_net_is_no_net(self):
        self.check([net(1001), net(), net(1001), net(), net(), net(1001), net(), net()],
                   [-1, 0, -1, 1, 2, -1, 3, -5])

    def test_a_refused_day_is_no_day(self):
        self.check([day()] * 8 + [begins(0), day()], [0, 1, 2, 3, 4, -5, -5, -5, 0, 0])

    def test_a_refused_begins_leaves_the_season(self):
        for number in REFUSED:
            self.check([kind(), net(), day(), begins(number), kind(), net(), day()], [0, 0, 0, -1, 1, 1, 1])
            self.check(FULL + [begins(number), kind(), net(), day()], FULL_ANSWERS + [-1, -5, -5, -5])


class BeginsAnew(SeasonCase):
    def test_in_the_middle(self):
        self.check([begins(4), kind(), net(), day(), day(), begins(4), day(), net(), kind()],
                   [0, 0, 0, 0, 1, 0, 0, 0, 0])

    def test_behind_a_full_season(self):
        self.check(FULL + [begins(1000)] + FULL + [kind(), net(), day()],
                   FULL_ANSWERS + [0] + FULL_ANSWERS + [-5, -5, -5])

    def test_twice_on_end(self):
        self.check([begins(1), begins(0), kind()], [0, 0, 0])


class AnyCallFirst(SeasonCase):
    def test_without_begins_the_season_is_empty(self):
        for first in (begins(0), kind(), net(), day()):
            self.check([first], [0])
        self.check(FULL, FULL_ANSWERS)

    def test_a_refusal_first(self):
        self.check([begins(1001), kind(), net(), day()], [-1, 0, 0, 0])


if __name__ == "__main__":
    unittest.main()
