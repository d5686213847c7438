"""Draws: one number behind another, all of them hanging on the first."""

MODULUS = 2147483647
FACTOR = 48271
TIMES_AGAIN = 20


def is_draw_number(number):
    return 1 <= number and number < MODULUS


def number_behind(number):
    return FACTOR * number % MODULUS


# From here on the low remainders would come once more than the high ones.
def fair_bound(m):
    return (MODULUS - 1) // m * m


class Draws:
    def __init__(self, number):
        self.number = number

    def below(self, m):
        bound = fair_bound(m)
        self.number = number_behind(self.number)
        again = 0
        while self.number - 1 >= bound and again < TIMES_AGAIN:
            self.number = number_behind(self.number)
            again = again + 1
        return (self.number - 1) % m
