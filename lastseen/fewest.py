"""The fewest bits that do for told bounds, and what lesser rules get wrong."""

from lastseen.errors import BadBounds, BadRule, NoRule
from lastseen.rules import LIMITS
from lastseen.spans import reach

KINDS = ("count", "shift")
FARTHEST = 1000
MOST_NEAR = 19


def fewest(kind, far, near):
    """The rule of this kind with the fewest bits for the bounds, and its papers."""
    if kind not in KINDS:
        raise BadRule("no such kind of rule")
    if far < 1 or far > FARTHEST:
        raise BadBounds("no rule is looked for that reaches so far")
    if near < 0 or near > MOST_NEAR:
        raise BadBounds("no rule is looked for that is so near")
    rule = _rule_for(kind, far, near + 1)
    return (rule, _papers(rule))


def _rule_for(kind, far, step):
    """The rule of this kind and step, with the fewest bits, that reaches so far."""
    most_bits = LIMITS[kind][0]
    for bits in range(1, most_bits + 1):
        rule = (kind, bits, step)
        if reach(rule) >= far:
            return rule
    raise NoRule("no rule of this kind and step reaches so far")


def _papers(rule):
    """What goes wrong with one bit fewer, and what with a greater step."""
    kind, bits, step = rule
    papers = []
    if bits > 1:
        papers.append(_ended_too_soon((kind, bits - 1, step)))
    papers.append(_alike((kind, bits, step + 1)))
    return papers


def _ended_too_soon(rule):
    """A thing that has the end just one moment beyond the reach of the rule."""
    # Seen just ahead of an ageing, a thing comes to the end as soon as it can.
    one = rule[2] - 1
    return (rule, one, None, one + reach(rule) + 1)


def _alike(rule):
    """Two things with the same mark, as far from each other as the rule lets them be."""
    # No ageing stands between the first moment and the last one ahead of an ageing.
    one = rule[2] - 1
    return (rule, one, 0, one)
