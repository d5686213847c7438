import unittest

import helper
from fighterbreeding.draws import Draws, fair_bound, is_draw_number, number_behind


class DrawsTest(unittest.TestCase):
    def test_the_first_numbers_behind_1(self):
        numbers = [1]
        for time in range(5):
            numbers.append(number_behind(numbers[-1]))
        self.assertEqual(numbers[1:], [48271, 182605794, 1291394886, 1914720637, 2078669041])

    def test_the_ten_thousandth_number_behind_1(self):
        number = 1
        for time in range(10000):
            number = number_behind(number)
        self.assertEqual(number, 399268537)

    def test_which_are_draw_numbers(self):
        told = [is_draw_number(x) for x in (-1, 0, 1, 2, 2147483645, 2147483646, 2147483647, helper.FAR)]
        self.assertEqual(told, [False, False, True, True, True, True, False, False])

    def test_a_draw_is_one_less_than_the_number_modulo_m(self):
        draws = Draws(1)
        self.assertEqual([draws.below(100), draws.below(7), draws.below(1)], [70, 182605793 % 7, 0])
        self.assertEqual(draws.number, 1291394886)

    def test_every_remainder_is_kept_alike_often(self):
        for m in list(range(1, 200)) + [999999, 1000000, 1073741823, 1073741824, 2147483646]:
            bound = fair_bound(m)
            self.assertEqual(bound % m, 0)
            self.assertLessEqual(bound, 2147483646)
            self.assertGreater(bound + m, 2147483646)

    def test_the_last_number_that_is_kept_and_the_first_that_is_drawn_again(self):
        for m in (4, 5, 8, 11, 64, 45, 1000000):
            bound = fair_bound(m)
            kept = Draws(helper.seed_for(bound))
            self.assertEqual((kept.below(m), kept.number), (m - 1, bound))
            again = Draws(helper.seed_for(bound + 1))
            behind = number_behind(bound + 1)
            if behind - 1 < bound:
                self.assertEqual((again.below(m), again.number), ((behind - 1) % m, behind))

    def test_where_m_divides_all_numbers_none_is_drawn_again(self):
        for m in (1, 2, 3, 6, 7, 9, 2147483646):
            draws = Draws(helper.seed_for(2147483646))
            self.assertEqual((draws.below(m), draws.number), (m - 1, 2147483646))

    def test_it_is_drawn_again_at_most_twenty_times(self):
        m = 1073741824
        numbers = [561362]
        for time in range(24):
            numbers.append(number_behind(numbers[-1]))
        self.assertTrue(all(y - 1 >= m for y in numbers[1:]))
        draws = Draws(561362)
        self.assertEqual(draws.below(m), (numbers[21] - 1) % m)
        self.assertEqual(draws.number, numbers[21])

    def test_draws_are_those_of_the_second_telling(self):
        for m in (2, 3, 8, 10, 45, 64, 1000, 1000000, 1500000000):
            draws = Draws(12345)
            state = [12345]
            for time in range(300):
                self.assertEqual(draws.below(m), helper.draw(state, m))
                self.assertEqual(draws.number, state[0])

    def test_many_draws_are_spread_evenly(self):
        draws = Draws(2026)
        found = [0] * 10
        for time in range(20000):
            found[draws.below(10)] += 1
        self.assertTrue(all(1850 < many < 2150 for many in found), found)


if __name__ == "__main__":
    unittest.main()
