"""True answers: exact sums, means and spreads of rows, and the numbers nearest to them."""

from trueline.numbers import near, value
from trueline.ratios import minus, over, times
from trueline.reckon import crossed, joined, one_form, root


# Joined as exact pairs, so that only the whole sum is brought to lowest terms.
def exact_total(pairs):
    total = (0, 0)
    for pair in pairs:
        total = joined(total, pair)
    return value(one_form(total))


def exact_sum(row):
    return exact_total(row)


def exact_dot(row, other):
    return exact_total([crossed(pair[0], pair[1]) for pair in zip(row, other)])


def exact_mean(row):
    return over(exact_sum(row), (len(row), 1))


def exact_spread(row):
    count = len(row)
    if count == 1:
        return (0, 1)
    whole = exact_sum(row)
    squares = exact_dot(row, row)
    top = minus(times((count, 1), squares), times(whole, whole))
    return over(top, (count * (count - 1), 1))


def true_sum(row, width):
    return near(exact_sum(row), width)


def true_dot(row, other, width):
    return near(exact_dot(row, other), width)


def true_mean(row, width):
    return near(exact_mean(row), width)


def true_spread(row, width):
    return near(exact_spread(row), width)


def true_deviation(row, width):
    return root(exact_spread(row), width)
