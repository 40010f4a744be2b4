"""Roles with numbers (point 5)."""


def inverse(role):
    """Return the inverse of a role."""
    number, back = role
    return number, not back
