"""Plain lists of octets and of other numbers."""


def filled(numbers, count):
    """Return a list of so many numbers: those of the list, and zeros behind them."""
    return (list(numbers) + [0] * count)[:count]


def pieces(numbers, size):
    """Return the list cut into pieces of this size; the last one may be shorter."""
    return [numbers[start:start + size] for start in range(0, len(numbers), size)]
