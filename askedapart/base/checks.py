"""The forms of values that are asked for in all parts of the package."""


def is_integer(value):
    """Whether the value is an integer; Python counts True and False among them, the package does not."""
    return isinstance(value, int) and not isinstance(value, bool)


def is_bit(value):
    """Whether the value is 0 or 1."""
    return is_integer(value) and 0 <= value <= 1


def is_index(value, many):
    """Whether the value is an integer from 0 to many - 1."""
    return is_integer(value) and 0 <= value < many


def has_size(value, least, most):
    """Whether the value is a tuple with so many members."""
    return isinstance(value, tuple) and least <= len(value) <= most


def is_bit_for_each(value, many):
    """Whether the value is a tuple of so many bits."""
    return has_size(value, many, many) and all([is_bit(bit) for bit in value])


def are_ascending(value, many):
    """Whether the value is an ascending tuple of integers from 0 to many - 1; () is one."""
    if not has_size(value, 0, many) or not all([is_index(at, many) for at in value]):
        return False
    return all([value[k] < value[k + 1] for k in range(len(value) - 1)])


def is_order(value, many):
    """Whether the value is a tuple of all integers from 0 to many - 1, each once."""
    return has_size(value, many, many) and all([is_index(at, many) for at in value]) and len(set(value)) == many


def are_pairs_below(value, many, more):
    """Whether the value is an ascending tuple of pairs of an index below many and one below more; () is one."""
    if not has_size(value, 0, many * more) or not all([has_size(pair, 2, 2) for pair in value]):
        return False
    if not all([is_index(one, many) and is_index(other, more) for one, other in value]):
        return False
    return all([value[k] < value[k + 1] for k in range(len(value) - 1)])


def are_rising_pairs(value, many):
    """Whether the value is an ascending tuple of pairs of indices below many, the lesser one ahead; () is one."""
    return are_pairs_below(value, many, many) and all([low < high for low, high in value])


def has_form(value, word, size):
    """Whether the value is a tuple with so many members, of which the first one is this word."""
    return has_size(value, size, size) and isinstance(value[0], str) and value[0] == word


def is_told(value, word):
    """Whether the value is a pair of this word and of something."""
    return has_form(value, word, 2)
