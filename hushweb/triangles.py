"""Equations modulo a number that need not be prime, brought into a triangle of rows: for histories.

An equation is a list of numbers: a factor for each unknown and, last, what factor times number adds up to. A row is a
tuple (numbers, sources): numbers like an equation's, sources a dict that tells of which equations, and how many times
each, the numbers are the sum. In a triangle the row at each index has 0 ahead of that index, and at the index a
divisor of the modulus, where 0 stands for the modulus itself.
"""


def triangle(equations, width, modulus):
    """Return the triangle of a dict of equations, by keys of their own, each of so many numbers."""
    rows = [([0] * width, {}) for _ in range(width)]
    for key, numbers in equations.items():
        insert(rows, ([number % modulus for number in numbers], {key: 1}), modulus)
    return rows


def insert(rows, row, modulus):
    """Change a triangle so that the sums of its rows' multiples are those with one more row among them."""
    for at in range(len(rows)):
        value = row[0][at]
        if value != 0:
            old = rows[at]
            corner = old[0][at] or modulus
            common, more, further = common_divisor(corner, value)
            # The two new rows give both old ones again, so that nothing is lost; the second one has 0 at the index.
            rows[at] = mixed(old, more, row, further, modulus)
            row = mixed(old, value // common, row, -(corner // common), modulus)


def common_divisor(one, other):
    """Return the greatest common divisor of two positive integers, and how many times each of them it is made of."""
    rest, further = (one, 1, 0), (other, 0, 1)
    while further[0] != 0:
        times = rest[0] // further[0]
        rest, further = further, tuple([a - times * b for a, b in zip(rest, further)])
    return rest


def mixed(one, times, other, further, modulus):
    """Return the row that is one row so many times, and another one so many times."""
    numbers = [(times * a + further * b) % modulus for a, b in zip(one[0], other[0])]
    sources = {key: times * many for key, many in one[1].items()}
    for key, many in other[1].items():
        sources[key] = sources.get(key, 0) + further * many
    return (numbers, {key: many % modulus for key, many in sources.items() if many % modulus != 0})


def contradiction(rows):
    """Return how many times which equations add up to factors of 0 alone and a sum other than 0, or None."""
    numbers, sources = rows[-1]
    return None if numbers[-1] == 0 else sources


def solution(rows, modulus):
    """Return any list of numbers that solves the equations of a triangle without contradiction."""
    numbers = [0] * (len(rows) - 1)
    for at in reversed(range(len(numbers))):
        factors = rows[at][0]
        left = (factors[-1] - sum([factor * number for factor, number in zip(factors, numbers)])) % modulus
        # What is left is a multiple of the corner: each multiple of the row without it comes of the later rows.
        numbers[at] = left // (factors[at] or modulus)
    return numbers


def solutions(rows, modulus):
    """Return how many lists of numbers solve the equations of a triangle without contradiction."""
    many = 1
    for at in range(len(rows) - 1):
        many = many * (rows[at][0][at] or modulus)
    return many
