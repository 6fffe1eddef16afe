"""Weights by the falling table."""


def weigh(falling, shift, numbers):
    greatest = max(numbers)
    last = len(falling) - 1
    return [falling[min(last, (greatest - number) >> shift)] for number in numbers]
