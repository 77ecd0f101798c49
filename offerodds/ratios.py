"""Fractions: a list of two, above and below the line, in lowest terms."""


def common_divisor(first, second):
    while second != 0:
        rest = first % second
        first = second
        second = rest
    return first


def lowest(above, below):
    divisor = common_divisor(above, below)
    return [above // divisor, below // divisor]
