"""What the tests share."""


def is_told(value):
    """True for what a function may tell: a plain value, or a tuple of such."""
    if type(value) is tuple:
        return all(is_told(part) for part in value)
    return value is None or type(value) in (int, str, bool)
