"""The rows of the desk: their words, and what may stand behind each of them."""

from trueline.decimals import behind_figures
from trueline.errors import BadRow
from trueline.numbers import is_width

MOST_COUNT_FIGURES = 3
MOST_DIGITS = 40

# How many words stand behind a row's first one, at least and at most.
WORDS_BEHIND = {
    "width": (1, 1),
    "digits": (1, 1),
    "row": (1, 6),
    "drop": (1, 1),
    "order": (1, 1),
    "sum": (1, 1),
    "mean": (1, 1),
    "spread": (1, 1),
    "root": (1, 1),
    "middle": (1, 1),
    "quick": (1, 1),
    "dot": (2, 2),
    "line": (2, 2),
    "fit": (2, 4),
    "least": (0, 0),
    "show": (1, 1),
    "brief": (1, 1),
}

# All others stand with counts.
WITH_TEXTS = ("row", "brief")


# Not by any white space: the blank alone stands between words.
def words_of(row):
    return [word for word in row.split(" ") if word != ""]


def is_count(word):
    return word[0] != "0" and behind_figures(word, 0, MOST_COUNT_FIGURES) == len(word)


def are_unlike(counts):
    return len(set(counts)) == len(counts)


def are_within_bounds(word, counts):
    if word == "width":
        return is_width(counts[0])
    if word == "digits":
        return counts[0] <= MOST_DIGITS
    # The first is the target, which may be one of the places.
    if word == "fit":
        return are_unlike(counts[1:])
    return True


def counts_behind(words):
    if not all([is_count(word) for word in words[1:]]):
        raise BadRow("a count is 1 to 3 figures, the first not 0")
    counts = [int(word) for word in words[1:]]
    if not are_within_bounds(words[0], counts):
        raise BadRow("a count that this row can't have")
    return counts


# What stands behind a row's first word: its texts, or its counts as whole numbers.
def things_behind(words):
    if words[0] not in WORDS_BEHIND:
        raise BadRow("no row begins with this word")
    bounds = WORDS_BEHIND[words[0]]
    if not bounds[0] <= len(words) - 1 <= bounds[1]:
        raise BadRow("too many words, or too few")
    return words[1:] if words[0] in WITH_TEXTS else counts_behind(words)
