"""What a mark tells: how long ago a thing was last seen."""

from lastseen.rules import aged_on, check_mark, check_moment, check_rule, end_mark, seen


def span(rule, now, mark):
    """How many moments ago, at the least and at the most, as a tuple."""
    check_rule(rule)
    check_moment(now)
    check_mark(rule, mark)
    if rule[0] == "rough":
        return _rough_span(rule, now, mark)
    return _stepped_span(rule, now, mark)


def off(rule):
    """By how much the most can be more than the true one, at the worst."""
    check_rule(rule)
    if rule[0] == "rough":
        return max([_rough_width(rule, now) for now in _rough_moments(rule)])
    return rule[2] - 1


def reach(rule):
    """The most moments that can go by without any danger of the end."""
    check_rule(rule)
    end = end_mark(rule)
    if rule[0] == "rough":
        return min([_rough_span(rule, now, end)[0] for now in _rough_moments(rule)]) - 1
    # The first ageing may come in the moment behind the one of the seeing.
    return (_agings(rule, end) - 1) * rule[2]


def _agings(rule, mark):
    """How often a thing was aged since it was seen; for the end, at the least."""
    fresh = seen(rule, end_mark(rule))
    if rule[0] == "shift":
        # Lower bits are from earlier times: only the highest one counts.
        return fresh.bit_length() - mark.bit_length()
    return mark - fresh


def _stepped_span(rule, now, mark):
    """As span, by the kinds count and shift."""
    step = rule[2]
    # Between two ageings lie step moments, and in one such run it was last seen.
    run = now // step - _agings(rule, mark)
    if run < 0:
        return (None, None)
    first = run * step
    latest = min(now, first + step - 1)
    if mark == end_mark(rule):
        return (now - latest, None)
    return (now - latest, now - first)


def _rough_span(rule, now, mark):
    """As span, by the kind rough."""
    end = end_mark(rule)
    fresh = seen(rule, end)
    found = []
    for ago in range(now + 1):
        reached = aged_on(rule, fresh, now - ago, now)
        if reached == mark:
            found.append(ago)
        # Things that were seen earlier have come to the end too.
        if reached == end:
            break
    if not found:
        return (None, None)
    if mark == end:
        return (found[0], None)
    return (found[0], found[-1])


def _rough_moments(rule):
    """One moment for each rest by which the kind rough goes."""
    turn = 1 << (end_mark(rule) - 1)
    # A thing comes to the end in fewer than two turns; so from here on moment 0
    # cuts no span short.
    return list(range(2 * turn, 3 * turn))


def _rough_width(rule, now):
    """The greatest difference of most and least now, over all marks but the end."""
    widest = 0
    for mark in range(end_mark(rule)):
        least, most = _rough_span(rule, now, mark)
        if most is not None:
            widest = max(widest, most - least)
    return widest
