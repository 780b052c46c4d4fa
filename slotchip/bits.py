"""Numbers of 8, 16, 32 and 64 bits, kept without their signs."""

MASK = 0xFFFFFFFF
MASK_64 = 0xFFFFFFFFFFFFFFFF


def signed(value, width):
    half = 1 << (width - 1)
    return (value & (2 * half - 1) ^ half) - half


def clamped(value, least, most):
    return max(least, min(most, value))
