"""Point 5.1, and 0.4 as far as it touches it."""

import copy
import itertools
import random
import unittest

from onceround.determinants import FIRST_PRIME, KNOWN_TIMES, STEP, determinant, further_times, is_further_prime

MOST = 10 ** 30


def sign_of(order):
    odd = sum(one > two for one, two in itertools.combinations(order, 2)) % 2
    return -1 if odd else 1


def by_all_orders(square):
    """The sum over all orders of the columns, as the document tells it."""
    total = 0
    for order in itertools.permutations(range(len(square))):
        product = sign_of(order)
        for row, column in zip(square, order):
            product *= row[column]
        total += product
    return total


def by_exact_steps(square):
    """Another way, for squares with too many rows for all orders: each division leaves nothing."""
    rows = [list(row) for row in square]
    last, sign = 1, 1
    for step in range(len(rows)):
        found = [place for place in range(step, len(rows)) if rows[place][step] != 0]
        if not found:
            return 0
        if found[0] != step:
            rows[step], rows[found[0]] = rows[found[0]], rows[step]
            sign = -sign
        top = rows[step]
        for place in range(step + 1, len(rows)):
            low = rows[place]
            rows[place] = [(x * top[step] - low[step] * y) // last for x, y in zip(low, top)]
        last = top[step]
    return sign * last


def random_square(chance, size, most, noughts=0.0):
    return [[0 if chance.random() < noughts else chance.randint(-most, most) for _ in range(size)]
            for _ in range(size)]


def multiplied(one, two):
    return [[sum(x * y for x, y in zip(row, column)) for column in zip(*two)] for row in one]


def unit(size):
    return [[int(row == column) for column in range(size)] for row in range(size)]


def square_with(told):
    """A square of numbers up to 10 ** 15 that has just this determinant."""
    size, base = 20, 10 ** 15
    figures = [abs(told) // base ** place % base for place in range(size - 1, -1, -1)]
    square = [[-figure if told < 0 else figure for figure in figures]]
    for row in range(1, size):
        square.append([-1 if column == row - 1 else base if column == row else 0 for column in range(size)])
    return square


def sheared(chance, size):
    """A square of determinant 1 by which the rows of another one are added to one another."""
    square = unit(size)
    for row in range(size):
        for column in range(row):
            square[row][column] = chance.randint(-9, 9)
    return square


class Case(unittest.TestCase):
    def tells(self, square, expected):
        found = determinant(square)
        self.assertIs(type(found), int)
        self.assertEqual(found, expected)


class Few(Case):
    def test_without_rows(self):
        self.tells([], 1)

    def test_one_row(self):
        for number in (0, 1, -1, 7, -12, 2 ** 60, 2 ** 61 - 1, -(2 ** 61 - 1), 2 ** 61, 2 ** 62 - 2, MOST, -MOST,
                       MOST - 1, 1 - MOST):
            self.tells([[number]], number)

    def test_two_rows(self):
        self.tells([[1, 2], [3, 4]], -2)
        self.tells([[0, 1], [1, 0]], -1)
        self.tells([[2, 0], [0, 3]], 6)
        self.tells([[6, 4], [3, 2]], 0)

    def test_three_rows(self):
        self.tells([[1, 2, 3], [4, 5, 6], [7, 8, 10]], -3)
        self.tells([[0, 0, 1], [0, 1, 0], [1, 0, 0]], -1)
        self.tells([[0, 1, 0], [0, 0, 1], [1, 0, 0]], 1)

    def test_all_squares_of_two_rows_of_small_numbers(self):
        for a, b, c, d in itertools.product(range(-3, 4), repeat=4):
            self.tells([[a, b], [c, d]], a * d - b * c)

    def test_all_squares_of_three_rows_of_smallest_numbers(self):
        for numbers in itertools.product((-1, 0, 1), repeat=9):
            square = [list(numbers[:3]), list(numbers[3:6]), list(numbers[6:])]
            self.tells(square, by_all_orders(square))

    def test_against_all_orders(self):
        chance = random.Random(51)
        for size, often in ((1, 40), (2, 120), (3, 200), (4, 200), (5, 80), (6, 20), (7, 3)):
            for most in (1, 2, 9, 10 ** 9, 2 ** 61, MOST):
                for noughts in (0.0, 0.5):
                    for _ in range(often // 4 + 1):
                        square = random_square(chance, size, most, noughts)
                        self.tells(square, by_all_orders(square))


class Forms(Case):
    def test_each_order_of_the_unit_rows(self):
        for size in range(1, 7):
            for order in itertools.permutations(range(size)):
                rows = unit(size)
                self.tells([rows[place] for place in order], sign_of(order))

    def test_first_numbers_are_noughts(self):
        chance = random.Random(52)
        for size in range(2, 7):
            for zeros in range(1, size + 1):
                for _ in range(6):
                    square = random_square(chance, size, 9)
                    for place in range(zeros):
                        square[place][0] = 0
                    self.tells(square, by_all_orders(square))
                    turned = [list(column) for column in zip(*square)]
                    self.tells(turned, by_all_orders(square))
                    if zeros == size:
                        self.tells(square, 0)

    def test_noughts_down_from_the_first_place(self):
        for size in range(2, 7):
            square = [[0 if row == column else 1 for column in range(size)] for row in range(size)]
            self.tells(square, (size - 1) * (-1) ** (size - 1))

    def test_two_like_rows(self):
        chance = random.Random(53)
        for size in range(2, 9):
            for most in (3, MOST):
                for one, two in itertools.combinations(range(size), 2):
                    square = random_square(chance, size, most)
                    square[two] = list(square[one])
                    self.tells(square, 0)
                    square[two] = square[one]
                    self.tells(square, 0)
                    square[two] = [-number for number in square[one]]
                    self.tells(square, 0)

    def test_a_row_made_of_others(self):
        chance = random.Random(54)
        for size in range(3, 9):
            square = random_square(chance, size, 10 ** 20)
            square[-1] = [2 * x - 3 * y for x, y in zip(square[0], square[1])]
            self.tells(square, 0)

    def test_rows_and_columns_of_noughts_only(self):
        chance = random.Random(55)
        for size in range(1, 9):
            self.tells([[0] * size for _ in range(size)], 0)
            for place in range(size):
                square = random_square(chance, size, MOST)
                square[place] = [0] * size
                self.tells(square, 0)
                square = random_square(chance, size, MOST)
                for row in square:
                    row[place] = 0
                self.tells(square, 0)

    def test_two_rows_exchanged(self):
        chance = random.Random(56)
        for size in range(2, 8):
            square = random_square(chance, size, MOST)
            told = determinant(square)
            for one, two in itertools.combinations(range(size), 2):
                other = list(square)
                other[one], other[two] = square[two], square[one]
                self.tells(other, -told)

    def test_products_of_two_squares(self):
        chance = random.Random(57)
        for size in list(range(1, 9)) + [16, 31]:
            for most in (2, 50, 10 ** 14):
                one = random_square(chance, size, most)
                two = random_square(chance, size, most)
                self.tells(multiplied(one, two), determinant(one) * determinant(two))

    def test_products_with_a_square_of_nought(self):
        chance = random.Random(58)
        one = random_square(chance, 6, 10 ** 10)
        two = random_square(chance, 6, 10 ** 10)
        two[3] = list(two[0])
        self.tells(multiplied(one, two), 0)
        self.tells(multiplied(two, one), 0)


class Great(Case):
    """Numbers of up to 10 ** 30 on either side, told exactly."""

    def test_small_squares_of_great_numbers(self):
        self.tells([[MOST, MOST], [-MOST, MOST]], 2 * 10 ** 60)
        self.tells([[-MOST, MOST], [MOST, MOST]], -2 * 10 ** 60)
        self.tells([[MOST, MOST - 1], [MOST - 1, MOST - 2]], -1)
        self.tells([[MOST - 1, MOST], [MOST - 2, MOST - 1]], 1)
        self.tells([[MOST, 0, 0], [0, -MOST, 0], [0, 0, MOST]], -10 ** 90)

    def test_signs_alone_at_the_greatest_numbers(self):
        square = [[1]]
        while len(square) < 32:
            # No square of numbers within 1 has a greater determinant.
            square = [row + row for row in square] + [row + [-number for number in row] for row in square]
            size = len(square)
            expected = by_exact_steps(square)
            self.assertEqual(abs(expected), size ** (size // 2))
            self.tells(square, expected)
            self.tells([[MOST * number for number in row] for row in square], expected * MOST ** size)

    def test_determinants_at_the_edges_of_what_a_prime_tells(self):
        chance = random.Random(59)
        first = 2 ** 61 - 1
        further = [times * 2 ** 192 + 1 for times in (133, 211, 598)]
        for told in (first, first * first, first * further[0], further[0], further[0] * further[1],
                     first * further[0] * further[1] * further[2], further[1] * 5, first // 2, first // 2 + 1):
            for near in (told - 1, told, told + 1, -told - 1, -told, 1 - told):
                square = square_with(near)
                self.tells(square, near)
                self.tells(multiplied(sheared(chance, len(square)), square), near)

    def test_random_squares(self):
        chance = random.Random(60)
        for size in (8, 9, 12, 17, 25, 33, 48):
            for most in (9, 10 ** 12, MOST):
                for noughts in (0.0, 0.8):
                    square = random_square(chance, size, most, noughts)
                    self.tells(square, by_exact_steps(square))


class Many(Case):
    """Squares of up to 130 rows."""

    def test_the_unit_square(self):
        for size in (64, 127, 129, 130):
            self.tells(unit(size), 1)
            self.tells([[MOST * number for number in row] for row in unit(size)], MOST ** size)
            self.tells([[-number for number in row] for row in unit(size)], (-1) ** size)

    def test_noughts_below_in_some_order_of_rows(self):
        chance = random.Random(61)
        for size in (61, 130):
            square = [[0] * row + [chance.choice((-1, 1)) * chance.randint(1, MOST) for _ in range(size - row)]
                      for row in range(size)]
            expected = 1
            for place in range(size):
                expected *= square[place][place]
            self.tells(square, expected)
            self.tells([list(column) for column in zip(*square)], expected)
            order = list(range(size))
            chance.shuffle(order)
            self.tells([square[place] for place in order], sign_of(order) * expected)

    def test_small_numbers(self):
        chance = random.Random(62)
        for size, most in ((100, 1), (130, 9)):
            square = random_square(chance, size, most)
            self.tells(square, by_exact_steps(square))
            square[-1] = [x - y for x, y in zip(square[0], square[1])]
            self.tells(square, 0)

    def test_three_numbers_side_by_side(self):
        chance = random.Random(63)
        size = 130
        square = [[0] * size for _ in range(size)]
        before, told = 0, 1
        for row in range(size):
            square[row][row] = chance.randint(-MOST, MOST)
            if row:
                square[row][row - 1] = chance.randint(-MOST, MOST)
                square[row - 1][row] = chance.randint(-MOST, MOST)
                before, told = told, square[row][row] * told - square[row][row - 1] * square[row - 1][row] * before
            else:
                before, told = told, square[row][row] * told
        self.tells(square, told)

    def test_no_noughts_and_the_greatest_numbers(self):
        size = 130
        one, other = MOST, -(MOST - 7)
        square = [[one if row == column else other for column in range(size)] for row in range(size)]
        self.tells(square, (one - other) ** (size - 1) * (one + (size - 1) * other))


class Beyond(Case):
    """Nothing is refused for being somewhat beyond these bounds."""

    def test_more_rows(self):
        self.tells([[MOST * number for number in row] for row in unit(140)], MOST ** 140)

    def test_longer_numbers(self):
        for long in (10 ** 31, 10 ** 60, 10 ** 3000):
            self.tells([[long]], long)
            self.tells([[-long, 1], [1, long]], -long * long - 1)
            self.tells([[long, long], [long, long]], 0)
            self.tells([[0, long, 1], [long, 0, 1], [1, 1, -long]], long ** 3 + 2 * long)


class Primes(unittest.TestCase):
    """By these primes the rests are told: were one of them none, some determinants would be wrong."""

    def test_the_first_one(self):
        self.assertEqual(FIRST_PRIME, 2 ** 61 - 1)
        # The test of Lucas for numbers of this form.
        rest = 4
        for _ in range(59):
            rest = (rest * rest - 2) % FIRST_PRIME
        self.assertEqual(rest, 0)

    def test_the_further_ones(self):
        self.assertEqual(STEP, 2 ** 192)
        for times in KNOWN_TIMES:
            prime = times * STEP + 1
            self.assertEqual(pow(3, times * STEP // 2, prime), prime - 1)
            self.assertIs(is_further_prime(prime), True)

    def test_those_found_are_those_known(self):
        many = len(KNOWN_TIMES)
        self.assertEqual([further_times(many, last) for last in (0,) + KNOWN_TIMES[:-1]], list(KNOWN_TIMES))
        self.assertEqual([further_times(place, 0) for place in range(many)], list(KNOWN_TIMES))

    def test_numbers_that_are_none(self):
        for times in range(1, 133):
            self.assertIs(is_further_prime(times * STEP + 1), False)


class Handed(Case):
    def test_the_square_stays(self):
        chance = random.Random(64)
        for size in range(0, 9):
            for noughts in (0.0, 0.6):
                for most in (3, MOST):
                    square = random_square(chance, size, most, noughts)
                    rows = list(square)
                    ahead = copy.deepcopy(square)
                    determinant(square)
                    self.assertEqual(square, ahead)
                    self.assertTrue(all(row is other for row, other in zip(square, rows)))

    def test_asked_again_it_tells_the_same(self):
        chance = random.Random(65)
        square = random_square(chance, 7, MOST)
        told = determinant(square)
        determinant(random_square(chance, 7, MOST))
        self.assertEqual(determinant(square), told)
        square[0] = [2 * number for number in square[0]]
        self.assertEqual(determinant(square), 2 * told)


if __name__ == "__main__":
    unittest.main()
