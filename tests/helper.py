"""What the tests reckon by: exact fractions, and numbers of a width found by comparing alone."""

import copy
import math
import random
import re
from fractions import Fraction

WIDTHS = (8, 9, 53, 64)
NUMBER_TEXT = re.compile(r"(-?[0-9]*)(?:\.([0-9]*))?(?:e(-?[0-9]{1,3}))?")


def told(fraction):
    return (fraction.numerator, fraction.denominator)


def exact(number):
    return Fraction(number[0]) * Fraction(2) ** number[1]


def fractions(row):
    return [exact(number) for number in row]


def opposites(row):
    return [(-whole, power) for whole, power in row]


def form_of(fraction):
    """The one form of a fraction whose under is a power of two."""
    top, under = fraction.numerator, fraction.denominator
    if top == 0:
        return (0, 0)
    power = -(under.bit_length() - 1)
    while top % 2 == 0:
        top //= 2
        power += 1
    return (top, power)


def step_at(size, width):
    """What the last digit of a size counts for: guessed by lengths, then found by comparing."""
    step = Fraction(2) ** (size.numerator.bit_length() - size.denominator.bit_length() - width)
    while step * 2 ** width <= size:
        step *= 2
    while step * 2 ** (width - 1) > size:
        step /= 2
    return step


def last_digit(number, width):
    digits = bin(abs(number[0]))[2:]
    return digits.ljust(width, "0")[width - 1]


def around(given, width):
    """The greatest number not above, the least not below, as fractions."""
    if given == 0:
        return Fraction(0), Fraction(0)
    step = step_at(abs(given), width)
    return (given // step) * step, -((-given) // step) * step


def of_two(below, above, stands, width):
    """The nearer one, stands telling how what is asked for stands to the midst of both."""
    if stands != 0:
        return form_of(below if stands < 0 else above)
    chosen = [side for side in (below, above) if last_digit(form_of(side), width) == "0"]
    return form_of(chosen[0])


def nearest(given, width):
    below, above = around(given, width)
    if below == above:
        return form_of(below)
    return of_two(below, above, (given - below) - (above - given), width)


def nearest_root(given, width):
    """The number nearest to the root of a fraction, squares being compared alone."""
    if given == 0:
        return (0, 0)
    step = Fraction(2) ** ((given.numerator.bit_length() - given.denominator.bit_length()) // 2 - width)
    while (step * 2 ** width) ** 2 <= given:
        step *= 2
    while (step * 2 ** (width - 1)) ** 2 > given:
        step /= 2
    below = math.isqrt(given // step ** 2) * step
    if below * below == given:
        return form_of(below)
    return of_two(below, below + step, given - (below + step / 2) ** 2, width)


def sample_wholes(width):
    """Odd wholes: the least, the greatest, those beside the middle one, others."""
    greatest = 2 ** width - 1
    wholes = [1, 3, 5, 2 ** (width - 1) - 1, 2 ** (width - 1) + 1, greatest, greatest - 2]
    dice = random.Random(width)
    wholes += [dice.randrange(0, 2 ** (width - 1)) * 2 + 1 for _ in range(10)]
    wholes += [dice.randrange(0, 2 ** 5) * 2 + 1 for _ in range(4)]
    return wholes


def sample_numbers(width):
    """Numbers of a width: powers of two, the greatest whole, those beside these, others."""
    powers = [-1300, -1299, -200, -61, -1, 0, 1, 60, 333, 1299, 1300]
    return [(sign * whole, power) for whole in sample_wholes(width) for power in powers for sign in (1, -1)]


def some_number(dice, width, least, greatest):
    """A number of a width by chance, its first digit from two to the least to below two to the greatest."""
    size = dice.choice((1, 2, width // 2, width - 1, width, width, width))
    whole = dice.randrange(2 ** (size - 1), 2 ** size) | 1
    first = dice.randrange(least, greatest)
    return (dice.choice((1, -1)) * whole, first - whole.bit_length() + 1)


def sample_measures(width):
    """Measures of a width: the ends, numbers beside them, others."""
    greatest, beyond = 2 ** width - 1, 2 ** (width - 1) + 1
    sizes = [(1, 60), (1, -60), (greatest, 60 - width), (beyond, -59 - width), (1, 0), (3, 58), (3, -61)]
    sizes += [(greatest, 0), (beyond, 0), (greatest, -width)] if width < 60 else [(greatest, -width)]
    return [(sign * whole, power) for whole, power in sizes for sign in (1, -1)]


def sample_rows(width):
    """Rows of 1 to 60 measures: of one size, far apart, much cancelling, noughts among, all alike, at the ends."""
    dice = random.Random(width + 50)
    rows = [[(0, 0)], [(1, 60)], [(-1, -60)], sample_measures(width)]
    for length in (1, 2, 3, 17, 60):
        rows.append([some_number(dice, width, -60, 60) for _ in range(length)])
        rows.append([some_number(dice, width, 0, 2) for _ in range(length)])
        half = [some_number(dice, width, -60, 60) for _ in range(length)]
        rows.append((half + [(-whole, power) for whole, power in half])[length // 2:length // 2 + length])
        rows.append([dice.choice(((0, 0), some_number(dice, width, -9, 9))) for _ in range(length)])
        rows.append([(2 ** width - 1, -width)] * length)
        rows.append([((-1) ** place, dice.choice((60, -60))) for place in range(length)])
        rows.append([(1, 60)] + [some_number(dice, width, -60, -50) for _ in range(length - 1)])
        rows.append(([(1, 60)] + [some_number(dice, width, -9, 9) for _ in range(length - 2)] + [(-1, 60)])[-length:])
    return rows


def some_row(dice, width, length, least, greatest):
    return [some_number(dice, width, least, greatest) for _ in range(length)]


def some_table(dice, width, rows, columns, least, greatest):
    return [some_row(dice, width, columns, least, greatest) for _ in range(rows)]


def little_table(dice, rows, columns):
    """Of whole numbers from -2 to 2, so that many are alike, nought or opposite."""
    return [[form_of(Fraction(dice.randrange(-2, 3))) for _ in range(columns)] for _ in range(rows)]


def sample_tables(width):
    """Tables of 1 to 60 rows and 1 to 6 columns: of one size, far apart, little ones, at the ends, all alike."""
    dice = random.Random(width + 70)
    tables = []
    for rows, columns in ((1, 1), (1, 6), (60, 1), (60, 6), (2, 2), (3, 3), (4, 4), (6, 6), (2, 5), (5, 2), (6, 3)):
        tables.append(some_table(dice, width, rows, columns, -60, 60))
        tables.append(some_table(dice, width, rows, columns, 0, 2))
        tables.append(little_table(dice, rows, columns))
        tables.append([[dice.choice(sample_measures(width)) for _ in range(columns)] for _ in range(rows)])
        tables.append([[dice.choice(((0, 0), (2 ** width - 1, -width)))] * columns for _ in range(rows)])
    return tables


def asked(case, function, *things):
    """What a function tells, or its refusal, what is handed in staying as it was."""
    before = copy.deepcopy(things)
    try:
        return function(*things)
    finally:
        case.assertEqual(things, before, function.__name__)


def refused(case, kind, function, *things):
    """The refusal, of that very class."""
    with case.assertRaises(kind) as caught:
        asked(case, function, *things)
    case.assertIs(type(caught.exception), kind)
    return caught.exception


def check_weights(case, weights, lists):
    """Whole numbers in lowest terms, the first that isn't 0 above 0, that bring the lists to nought at each place."""
    case.assertIs(type(weights), list)
    case.assertEqual([type(weight) for weight in weights], [int] * len(lists))
    case.assertEqual(math.gcd(*weights), 1, weights)
    case.assertGreater([weight for weight in weights if weight != 0][0], 0, weights)
    for numbers in zip(*lists, strict=True):
        case.assertEqual(sum([weight * exact(number) for weight, number in zip(weights, numbers)]), 0, weights)


def read_exactly(text):
    """The fraction that a decimal text writes, or None."""
    match = NUMBER_TEXT.fullmatch(text)
    if match is None:
        return None
    ahead, behind, power = match.group(1), match.group(2) or "", match.group(3) or "0"
    if not 1 <= len(ahead.lstrip("-") + behind) <= 40:
        return None
    return int(ahead + behind) * Fraction(10) ** (int(power) - len(behind))


def text_of(whole, power, digits):
    """A whole of so many figures, or the next power of ten, times ten to a power."""
    figures = str(whole)
    point = "." + figures[1:digits] if digits > 1 else ""
    return figures[0] + point + "e" + str(power + len(figures) - 1)


def texts_around(size, digits):
    """The nearest texts of so many figures not above a size and not below it, found by comparing."""
    power = len(str(size.numerator)) - len(str(size.denominator)) - digits + 1
    while Fraction(10) ** (power + digits) <= size:
        power += 1
    while Fraction(10) ** (power + digits - 1) > size:
        power -= 1
    step = Fraction(10) ** power
    return [text_of(whole, power, digits) for whole in (size // step, -(-size // step))]


def nearest_of_texts(size, texts):
    """The nearest text; of two equally near that whose last figure is even, of 9 and 1 the 1."""
    far = [abs(read_exactly(text) - size) for text in texts]
    chosen = [text for text, off in zip(texts, far) if off == min(far)]
    even = [text for text in chosen if text.partition("e")[0][-1] in "02468"]
    return (even or [text for text in chosen if text[0] == "1"] or chosen)[0]


def text_with_sign(given, text):
    return "-" + text if given < 0 else text


def nearest_text(given, digits):
    if given == 0:
        return "0"
    return text_with_sign(given, nearest_of_texts(abs(given), texts_around(abs(given), digits)))


def briefest_text(given, width):
    """With ever more figures, until a text beside the number is read as it."""
    if given == 0:
        return "0"
    number, digits, texts = form_of(abs(given)), 0, []
    while not texts:
        digits += 1
        around_it = texts_around(abs(given), digits)
        texts = [text for text in around_it if nearest(read_exactly(text), width) == number]
    return text_with_sign(given, nearest_of_texts(abs(given), texts))
