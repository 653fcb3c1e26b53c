"""Lines and fits of least squares through a table's numbers, exactly."""

from trueline.errors import NoLine
from trueline.ratios import common_divisor, minus, over, ratio, times
from trueline.solving import solved_in_wholes
from trueline.tables import least_power, one_by_one, rows_in_steps, turned
from trueline.truth import exact_dot, exact_sum

ONE = (1, 0)


def line_of(row, other):
    count = (len(row), 1)
    whole = exact_sum(row)
    whole_other = exact_sum(other)
    squares = exact_dot(row, row)
    products = exact_dot(row, other)
    under = minus(times(count, squares), times(whole, whole))
    if under[0] == 0:
        raise NoLine("all numbers of the first row are alike")
    slope = minus(times(count, products), times(whole, whole_other))
    offset = minus(times(whole_other, squares), times(whole, products))
    return (over(slope, under), over(offset, under))


# A one ahead of each row's numbers stands for the offset, the target's number
# is the last. All are counted in the same steps, which changes no factor, no
# offset and no weight.
def rows_of_fit(table, places, target):
    rows = [[ONE] + [row[place] for place in places] + [row[target]] for row in table]
    return rows_in_steps(rows, least_power(one_by_one(rows)))


def whole_dot(row, other):
    return sum([pair[0] * pair[1] for pair in zip(row, other)])


def whole_dots(row, others):
    return [whole_dot(row, other) for other in others]


# The squares of what is missed are least where it, times each column, sums up
# to nought: that is an equation for each column. Weights that bring these
# equations to nought bring the columns to nought too, since the squares of what
# the columns then tell, row by row, sum up to nought.
def fitted(table, places, target):
    columns = turned(rows_of_fit(table, places, target))
    lists = [whole_dots(row, columns) for row in columns[:-1]]
    return solved_in_wholes([row[:-1] for row in lists], [row[-1] for row in lists])


def common_under(parts):
    told = 1
    for part in parts:
        told = told * part[1] // common_divisor(told, part[1])
    return told


# The tops of what is missed, row by row, all above one under: so only what is
# told at last is brought to lowest terms.
def missed_tops(rows, tops, under):
    return [row[-1] * under - whole_dot(row[:-1], tops) for row in rows]


# Tells (tops, under). The one at each row's head tells how many steps there are
# in one, so it brings what is counted in steps back to what it stands for.
def missed(table, places, target, parts):
    rows = rows_of_fit(table, places, target)
    under = common_under(parts)
    tops = [part[0] * (under // part[1]) for part in parts]
    return (missed_tops(rows, tops, under), under * rows[0][0])


def residues(table, places, target, parts):
    pair = missed(table, places, target, parts)
    return [ratio(top, pair[1]) for top in pair[0]]


def misses(table, places, target, parts):
    pair = missed(table, places, target, parts)
    return ratio(whole_dot(pair[0], pair[0]), pair[1] * pair[1])
