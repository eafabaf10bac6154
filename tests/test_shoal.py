import unittest

from helper import LARGEST_NUMBER, SeasonCase, begins, best, check, day, kind, net, season, shoal
from seasonmeshes.season import answers

NOT_AS_TOLD = (0, 1001, LARGEST_NUMBER)
# Net 0 takes all fish of kind 0, as these are as large as they have to be.
TOLD = [begins(1000), kind(1, 1, 1000), net(0), day()]


class Numbers(SeasonCase):
    def test_are_counted_from_0(self):
        self.assertEqual(answers([1, 5, 20, 30, 3, 4, 0, 25, 4, 4, 0, 25, 4]), [1, 0, 1, 0, 1, 0, 1, 1])

    def test_are_counted_from_0_again_on_a_new_day(self):
        self.check([kind(), day(), shoal(), shoal(), shoal(), day(), shoal(), day(), day(), shoal(), shoal()],
                   [0, 0, 0, 1, 2, 1, 0, 2, 3, 0, 1])

    def test_are_counted_over_all_kinds(self):
        self.check([kind(), kind(), kind(), day(), shoal(2), shoal(0), shoal(1), shoal(2)],
                   [0, 1, 2, 0, 0, 1, 2, 3])

    def test_a_kind_told_behind_the_day(self):
        self.check([day(), kind(), shoal(0), kind(), shoal(1)], [0, 0, 0, 1, 1])

    def test_without_nets(self):
        self.check([kind(), day(), shoal()], [0, 0, 0])


class OnTheLastDay(SeasonCase):
    def test_each_shoal_is_on_the_day_that_was_last_then(self):
        told = TOLD + [shoal(0, 9, 1), day(), shoal(0, 9, 10), shoal(0, 9, 100), day()]
        self.behind(told, [check(0, 1, 1), check(1, 0, 1), check(1, 1, 0)],
                    [[1, 1, 0, 1], [110, 2, 0, 110], [0, 1, 0, 0]])


class NoDay(SeasonCase):
    def test_is_refused(self):
        self.check([kind(), shoal(), day(), shoal()], [0, -2, 0, 0])

    def test_as_the_first_call(self):
        self.check([shoal()], [-2])

    def test_goes_ahead_of_a_number_not_as_told(self):
        for number in NOT_AS_TOLD:
            self.check([kind(), shoal(0, number, 1), shoal(0, 1, number), shoal(1, number, number)],
                       [0, -2, -2, -2])

    def test_goes_ahead_of_a_kind_that_is_not_there(self):
        self.check([shoal(0), kind(), shoal(1), shoal(LARGEST_NUMBER)], [-2, 0, -2, -2])

    def test_behind_begins(self):
        self.check([kind(), day(), shoal(), begins(0), kind(), shoal()], [0, 0, 0, 0, 0, -2])


class NotAsTold(SeasonCase):
    def test_a_kind_that_is_not_there(self):
        self.check([day(), shoal(0), kind(), shoal(1), shoal(0), kind(), shoal(1), shoal(2), shoal(LARGEST_NUMBER)],
                   [0, -1, 0, -1, 0, 1, 1, -1, -1])

    def test_the_third_kind_is_the_last(self):
        self.check([kind()] * 4 + [day(), shoal(2), shoal(3)], [0, 1, 2, -5, 0, 0, -1])

    def test_a_refused_kind_is_not_there(self):
        self.check([kind(worth=1001), day(), shoal(0)], [-1, 0, -1])

    def test_a_size(self):
        for number in NOT_AS_TOLD:
            with self.subTest(number=number):
                self.check([kind(), day(), shoal(size=number), shoal()], [0, 0, -1, 0])

    def test_how_many(self):
        for number in NOT_AS_TOLD:
            with self.subTest(number=number):
                self.check([kind(), day(), shoal(many=number), shoal()], [0, 0, -1, 0])

    def test_one_too_small_and_one_too_large(self):
        self.check([kind(), day(), shoal(0, 0, 1001), shoal(0, 1001, 0)], [0, 0, -1, -1])

    def test_1_and_1000_are_taken(self):
        self.check([kind(), day(), shoal(0, 1, 1), shoal(0, 1000, 1000), shoal(0, 1, 1000), shoal(0, 1000, 1)],
                   [0, 0, 0, 1, 2, 3])


class SixShoals(SeasonCase):
    full = [kind(), day()] + [shoal()] * 6
    full_answers = [0, 0, 0, 1, 2, 3, 4, 5]

    def test_the_seventh_is_refused(self):
        self.check(self.full + [shoal()] * 2, self.full_answers + [-5] * 2)

    def test_not_as_told_goes_ahead(self):
        for number in NOT_AS_TOLD:
            self.check(self.full + [shoal(size=number), shoal(many=number), shoal()],
                       self.full_answers + [-1, -1, -5])
        self.check(self.full + [shoal(kind=1), shoal(kind=LARGEST_NUMBER)], self.full_answers + [-1, -1])

    def test_the_next_day_has_room_again(self):
        self.check(self.full + [day()] + [shoal()] * 7, self.full_answers + [1, 0, 1, 2, 3, 4, 5, -5])

    def test_five_days_of_six(self):
        self.check([kind()] + self.full[1:] * 5 + [day(), shoal()],
                   [0] + [number for first in range(5) for number in [first, 0, 1, 2, 3, 4, 5]] + [-5, -5])


class AfterARefusal(SeasonCase):
    def test_all_is_as_it_was(self):
        told = season(0, [(1, 1, 1000)], [0], [[(0, 9, 3)]])
        refused = [shoal(1, 9, 3), shoal(0, 0, 3), shoal(0, 1001, 3), shoal(0, 9, 0), shoal(0, 9, 1001)]
        self.behind(told, refused + [check(0), best(), shoal()],
                    [[-1]] * 5 + [[3, 0, 0, 3], [3, 0, 1, 0], [1]])

    def test_a_seventh_shoal_takes_no_part(self):
        told = season(0, [(1, 1, 1000)], [0], [[(0, 9, 1)] * 6])
        self.behind(told, [shoal(), check(0), best()], [[-5], [6, 0, 0, 6], [6, 0, 1, 0]])

    def test_a_shoal_without_a_day_is_not_on_the_first(self):
        self.check([kind(), net(), shoal(), day(), shoal()], [0, 0, -2, 0, 0])
        self.behind([kind(), net(), shoal(), day()], [check(0)], [[0, 0, 0, 0]])


if __name__ == "__main__":
    unittest.main()
