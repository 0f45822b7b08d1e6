"""What kind a value is, and other small looks that all other files share."""


def is_integer(value):
    """Whether any value is an INTEGER."""
    return isinstance(value, int) and not isinstance(value, bool)


def is_count_below(value, bound):
    """Whether any value is a COUNT less than the bound."""
    return is_integer(value) and 0 <= value < bound


def is_word(value, word):
    """Whether any value is this string."""
    return isinstance(value, str) and value == word


def is_listed(value):
    """Whether any value may stand for a list that is passed."""
    return isinstance(value, (list, tuple))


def is_tuple_of(value, many):
    """Whether any value is a tuple of so many parts."""
    return isinstance(value, tuple) and len(value) == many


def has_counts_below(row, bound):
    """Whether all parts of a list or tuple are COUNTS less than the bound."""
    return all(is_count_below(part, bound) for part in row)


def has_unlike_counts(row, bound):
    """Whether all parts of a list or tuple are unlike COUNTS less than the bound."""
    return has_counts_below(row, bound) and len(set(row)) == len(row)


def is_count_tuple(value):
    """Whether any value is a tuple of COUNTS, however great."""
    return isinstance(value, tuple) and all(is_integer(part) and part >= 0 for part in value)


def is_rising(value, bound):
    """Whether any value is a rising tuple of COUNTS less than the bound."""
    if not isinstance(value, tuple) or not has_counts_below(value, bound):
        return False
    return all(lesser < greater for lesser, greater in zip(value, value[1:]))


def threes_of(row):
    """All threes of a list, in its sequence."""
    many = len(row)
    return [(row[a], row[b], row[c]) for a in range(many) for b in range(a + 1, many) for c in range(b + 1, many)]
