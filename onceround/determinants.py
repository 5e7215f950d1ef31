"""Stage 5: determinants of squares of whole numbers, told exactly."""

# 2 to the power 61, less one: a prime that is enough by itself for the squares of most webs.
FIRST_PRIME = 2305843009213693951
# 2 to the power 192. The further primes are one more than so many times this.
STEP = 6277101735386680763835789423207666416102355444464034512896
# The least such times of which is_further_prime is True: enough for 130 rows of numbers within 10 to the power 30.
KNOWN_TIMES = (
    133, 211, 598, 652, 721, 850, 1282, 1417, 1582, 1681, 1726, 1837, 1885, 2017, 2377, 2383, 2452, 2476, 2530,
    2611, 2662, 2698, 2773, 2878, 2917, 2980, 2998, 3082, 3238, 3250, 3343, 3421, 3427, 3670, 3817, 4162, 4252,
    4447, 4468, 4621, 4630, 4747, 4867, 4891, 4915, 5128, 5143, 5236, 5401, 5587, 5650, 5803, 5833, 5923, 5986,
    6202, 6235, 6286, 6496, 6526, 6736, 7093, 7561, 7696, 7831, 7855, 7882, 7927, 8143, 8248,
)


def power_rest(base, exponent, divisor):
    result = 1
    square = base % divisor
    left = exponent
    while left > 0:
        if left % 2 == 1:
            result = result * square % divisor
        square = square * square % divisor
        left = left // 2
    return result


def is_further_prime(number):
    # Proth's theorem: one more than so many times STEP, but fewer than STEP times, is prime where this power of some
    # base has the rest -1 by it. Of a prime whose rest by 3 is 2 the power of 3 always has.
    return number % 3 == 2 and power_rest(3, number // 2, number) == number - 1


def further_times(place, last):
    if place < len(KNOWN_TIMES):
        return KNOWN_TIMES[place]
    times = last + 1
    while not is_further_prime(times * STEP + 1):
        times = times + 1
    return times


def inverse(number, prime):
    # Euclid's steps from the prime and the number down to 1: each rest is so many times the number, but for
    # multiples of the prime.
    last = prime
    rest = number % prime
    last_times = 0
    times = 1
    while rest != 1:
        quotient = last // rest
        next_rest = last - quotient * rest
        last = rest
        rest = next_rest
        more_times = last_times - quotient * times
        last_times = times
        times = more_times
    return times % prime


def lowered(row, top, back, prime):
    times = row[0] * back % prime
    # The squares of webs are noughts for the most part.
    if times == 0:
        return row[1:]
    return [number - times * above for number, above in zip(row[1:], top[1:])]


def first_other_than_nought(numbers):
    for place, number in enumerate(numbers):
        if number != 0:
            return place
    return None


def determinant_rest(square, prime):
    rows = list(square)
    rest = 1
    while rows != []:
        place = first_other_than_nought([row[0] % prime for row in rows])
        if place is None:
            return 0
        # Only here are numbers brought below the prime: till then they grow by a few figures alone.
        top = [number % prime for number in rows[place]]
        back = inverse(top[0], prime)
        # The row goes ahead of all others by as many exchanges of two as there are rows ahead of it.
        rest = rest * top[0] % prime
        if place % 2 == 1:
            rest = prime - rest
        rows = [lowered(row, top, back, prime) for row in rows[:place] + rows[place + 1:]]
    return rest


def greatest_of(square):
    # Multiplied out, the sums of the rows without their signs have each product of the determinant among others.
    bound = 1
    for row in square:
        bound = bound * sum([abs(number) for number in row])
    return bound


def determinant(square):
    # Whole numbers that are eliminated exactly grow long. So the rests of the determinant by one prime after the
    # other are told, till only one number that is not too great has them all.
    bound = greatest_of(square)
    result = determinant_rest(square, FIRST_PRIME)
    modulus = FIRST_PRIME
    place = 0
    times = 0
    while modulus <= 2 * bound:
        times = further_times(place, times)
        place = place + 1
        prime = times * STEP + 1
        lacking = determinant_rest(square, prime) - result
        result = result + lacking * inverse(modulus, prime) % prime * modulus
        modulus = modulus * prime
    if result > bound:
        return result - modulus
    return result
