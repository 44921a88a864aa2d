"""Numbers that stand beside keys, added up where the keys are alike."""

from soughtrows.ratios import Ratio


def joined(pairs):
    """The pairs (key, NUMBER), like keys joined, none with 0, sorted by their keys."""
    found = {}
    for key, number in pairs:
        found[key] = found.get(key, Ratio(0)) + number
    return [(key, found[key]) for key in sorted(list(found)) if found[key].sign != 0]
