"""Exact numbers a + b phi, phi phi = phi + 1, kept as pairs (a, b) of whole numbers."""


def less_product(x, p, y):
    high = p[1] * y[1]
    return (x[0] - p[0] * y[0] - high, x[1] - p[0] * y[1] - p[1] * y[0] - high)


# Twice a + b phi is (2 a + b) + b times the root of 5. Squares that keep their signs are ordered as
# the numbers are, so the root need not be drawn.
def below_zero(x):
    plain = 2 * x[0] + x[1]
    return plain * abs(plain) + 5 * x[1] * abs(x[1]) < 0
