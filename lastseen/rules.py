"""Rules: which there are, their marks, and how marks are aged."""

from lastseen.errors import BadMark, BadMoment, BadRule

# The most that each of a rule's numbers may be; the least is always 1.
LIMITS = {"count": (6, 20), "shift": (10, 20), "rough": (3,)}

LAST_MOMENT = 10 ** 9


def is_rule(rule):
    """Whether a tuple of a text and some numbers is a rule."""
    if rule[0] not in LIMITS:
        return False
    limits = LIMITS[rule[0]]
    numbers = rule[1:]
    if len(numbers) != len(limits):
        return False
    return all([1 <= number <= most for number, most in zip(numbers, limits)])


# The refusals do not show the numbers: Python fails to write out very long ones.


def check_rule(rule):
    """Refuse what is no rule."""
    if not is_rule(rule):
        raise BadRule("no such rule")


def check_mark(rule, mark):
    """Refuse a number that is no mark by the rule."""
    if mark < 0 or mark > top_mark(rule):
        raise BadMark("the rule has no such mark")


def check_moment(moment):
    """Refuse a number that is no moment."""
    if moment < 0 or moment > LAST_MOMENT:
        raise BadMoment("the moment is out of bounds")


def top_mark(rule):
    """The greatest mark of a rule."""
    if rule[0] == "shift":
        return (1 << (rule[1] + 1)) - 1
    return (1 << rule[1]) - 1


def end_mark(rule):
    """The mark that ageing does not change any more."""
    if rule[0] == "shift":
        return 0
    return top_mark(rule)


def seen(rule, mark):
    """The mark of a thing with this mark, once it is seen."""
    if rule[0] != "shift":
        return 0
    highest_bit = 1 << rule[1]
    if mark < highest_bit:
        return mark + highest_bit
    return mark


def aged(rule, mark, begin, end):
    """The mark at the moment end, if nothing is seen behind the moment begin."""
    check_rule(rule)
    check_mark(rule, mark)
    check_moment(begin)
    check_moment(end)
    if end < begin:
        raise BadMoment("the second moment is ahead of the first one")
    return aged_on(rule, mark, begin, end)


def aged_on(rule, mark, begin, end):
    """As aged, of what is known to be right."""
    if rule[0] == "rough":
        return _aged_roughly(top_mark(rule), mark, begin, end)
    step = rule[2]
    times = end // step - begin // step
    if rule[0] == "shift":
        return mark >> times
    return min(mark + times, top_mark(rule))


def _aged_roughly(last, mark, begin, end):
    """As aged, by a rule of the kind rough whose end is last."""
    moment = begin
    while mark < last:
        # The next multiple of 2 ** mark; the moment itself has aged already.
        moment = ((moment >> mark) + 1) << mark
        if moment > end:
            break
        mark += 1
    return mark
