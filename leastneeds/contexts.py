"""Improving needs, the least context of needs, and needs for which there is no hope."""

from leastneeds.charts import are_met
from leastneeds.improvement import improved, is_hopeless, least_of


def improving(program, needs, given=(), fixed=()):
    """A most general dict by which needs are improved beside a given context, or None."""
    return improved(program.book, needs, given, fixed)


def entails(program, one, other):
    """Whether a context meets each need of another one."""
    return are_met(program.book, one, other)


def least(program, needs):
    """The least context of needs that no improvement changes, a tuple."""
    return least_of(program.book, needs)


def hopeless(program, given, need, fixed=()):
    """Whether a need is hopeless beside a given context."""
    return is_hopeless(program.book, given, need, fixed)
