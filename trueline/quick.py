"""Quick answers: sums by rounded steps, each with a bound of how far off it may be."""

from trueline.reckon import added, multiplied, rounded


def without_sign(number):
    return (abs(number[0]), number[1])


# The sum from the first to the last, and near(count 2 ** (1 - width) t), t
# being such a sum of the sizes.
def sum_and_bound(numbers, count, width):
    whole = (0, 0)
    sizes = (0, 0)
    for number in numbers:
        whole = added(whole, number, width)
        sizes = added(sizes, without_sign(number), width)
    return (whole, rounded((count * sizes[0], sizes[1] + 1 - width), width))


def quick_sum(row, width):
    return sum_and_bound(row, len(row), width)


# The products are rounded too, which the bound counts as one step more.
def quick_dot(row, other, width):
    products = [multiplied(pair[0], pair[1], width) for pair in zip(row, other)]
    return sum_and_bound(products, len(row) + 1, width)
