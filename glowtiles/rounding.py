"""The rounding and the clamping that several operations share."""


def rounded_quotient(dividend, divisor):
    """The nearest integer to the quotient, and the greater one of two that are equally near."""
    return (2 * dividend + divisor) // (2 * divisor)


def clamped(value):
    """The value, or where it is no value of a channel, the end of their range that is nearer."""
    return max(0, min(value, 65535))
