"""Shapes, strips, the local rule in both directions, and chains (points 1 to 5)."""

from walkhands.errors import NotStrip

MOST_PARTS = 24
GREATEST_PART = 1000000


def part(shape, number):
    """Return the part with this number, which is counted from 1."""
    return shape[number - 1] if number <= len(shape) else 0


def is_shape(row):
    """Return True if a tuple of integers is a shape as it may be passed."""
    if len(row) > MOST_PARTS:
        return False
    greatest = GREATEST_PART
    for value in row:
        if value < 1 or value > greatest:
            return False
        greatest = value
    return True


def is_strip(upper, lower):
    """Return True if the first shape is a strip over the second one."""
    for r in range(1, max(len(upper), len(lower)) + 1):
        if part(upper, r) < part(lower, r) or part(upper, r + 1) > part(lower, r):
            return False
    return True


def grow(rho, mu, nu, count):
    """Return the shape that the local rule grows."""
    if not is_strip(mu, rho):
        raise NotStrip("mu")
    if not is_strip(nu, rho):
        raise NotStrip("nu")
    return local_rule(rho, mu, nu, count)


def local_rule(rho, mu, nu, count):
    """Return the grown shape without asking whether mu and nu are strips over rho."""
    parts = [_greater(mu, nu, 1) + count]
    for r in range(1, max(len(mu), len(nu)) + 1):
        parts.append(_across(mu, nu, r) - part(rho, r))
    return _without_zeros(parts)


def shrink(mu, nu, shape):
    """Return rho and the count from which the shape is grown."""
    if not is_strip(shape, mu):
        raise NotStrip("mu")
    if not is_strip(shape, nu):
        raise NotStrip("nu")
    count = part(shape, 1) - _greater(mu, nu, 1)
    parts = []
    for r in range(1, min(len(mu), len(nu)) + 1):
        parts.append(_across(mu, nu, r) - part(shape, r + 1))
    return _without_zeros(parts), count


def _greater(mu, nu, r):
    return max(part(mu, r), part(nu, r))


def _across(mu, nu, r):
    # Part r of rho and part r + 1 of the grown shape add up to this, so each tells the other.
    return _greater(mu, nu, r + 1) + min(part(mu, r), part(nu, r))


def _without_zeros(parts):
    return tuple([value for value in parts if value != 0])


def is_chain(shapes):
    """Return True if a list of shapes is a chain."""
    if len(shapes) == 0 or shapes[0] != ():
        return False
    for k in range(1, len(shapes)):
        if not is_strip(shapes[k], shapes[k - 1]):
            return False
    return True


def toggled(chain, index):
    """Return the chain that is toggled at the index."""
    shapes = list(chain)
    # A shape at either end has no neighbour on one side, so nothing can replace it.
    if 0 < index < len(chain) - 1:
        shapes[index] = _toggled_shape(chain[index - 1], chain[index], chain[index + 1])
    return shapes


def _toggled_shape(lo, shape, hi):
    parts = []
    for r in range(1, len(hi) + 1):
        # Strips on both sides leave part r this span; toggling reflects the part within it.
        most = part(hi, 1) if r == 1 else min(part(hi, r), part(lo, r - 1))
        least = max(part(hi, r + 1), part(lo, r))
        parts.append(most + least - part(shape, r))
    return _without_zeros(parts)
