"""The order of rows by their values."""

from worthstead.exact.ratios import is_ratio, size_keys


def keys_of(values):
    """An integer for each value, ordered as the values are, or None for a lacking one."""
    present = [index for index, value in enumerate(values) if value is not None]
    found = [values[index] for index in present]
    numbers = size_keys(found) if found and is_ratio(found[0]) else found
    keys = [None] * len(values)
    for index, key in zip(present, numbers):
        keys[index] = key
    return keys


def place_keys(values, is_down):
    """A pair for each value; the pairs ascend as the values do, or downward, those of lacking ones last."""
    sign = -1 if is_down else 1
    return [(1, 0) if key is None else (0, sign * key) for key in keys_of(values)]


def order_of(total, columns, downs):
    """The indices of so many rows in the order of their values, the first column deciding first."""
    keys = [place_keys(values, is_down) for values, is_down in zip(columns, downs)]
    # The index stands last, so that equal rows keep their order.
    rows = sorted([(tuple([column[index] for column in keys]), index) for index in range(total)])
    return [index for _, index in rows]
