"""How long integers are."""

# Eight is less than ten, and sixteen is more.
FEWEST_BITS = 3
MOST_BITS = 4


def is_longer(number, digits):
    """Whether an integer has more decimal digits than told."""
    bits = number.bit_length()
    if bits <= FEWEST_BITS * digits:
        return False
    # Python refuses to write very long integers, so the text is taken only of those that can be near the bound.
    return bits > MOST_BITS * digits or len(str(abs(number))) > digits
