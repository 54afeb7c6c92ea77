"""Curves over the whole numbers below a prime: what is dealt to a node's formulas lies on one."""


# The numbers are those that stand by 1, x, x x, ...
def value_at(numbers, x, prime):
    value = 0
    for number in reversed(numbers):
        value = (value * x + number) % prime
    return value


# What the one curve through the points, with as few numbers as there are points, has at x.
def value_through(points, x, prime):
    value = 0
    for place, height in points:
        others = [point[0] for point in points if point[0] != place]
        above = product([x - other for other in others], prime)
        below = product([place - other for other in others], prime)
        value = (value + height * above * inverse(below, prime)) % prime
    return value


def product(numbers, prime):
    result = 1
    for number in numbers:
        result = result * number % prime
    return result


# A number that is not 0 has just one: the prime is small, so it is looked for.
def inverse(number, prime):
    found = 1
    while number * found % prime != 1:
        found += 1
    return found
