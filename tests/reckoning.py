"""Slow reckonings, moment by moment, that the tests hold the program against."""

FAR = 10 ** 9


def all_rules():
    counts = [("count", bits, step) for bits in range(1, 7) for step in range(1, 21)]
    shifts = [("shift", bits, step) for bits in range(1, 11) for step in range(1, 21)]
    roughs = [("rough", bits) for bits in range(1, 4)]
    return counts + shifts + roughs


def some_rules():
    """Rules of all kinds, with the least and the most bits and steps among them."""
    counts = [("count", bits, step) for bits in (1, 2, 3, 6) for step in (1, 2, 3, 7, 20)]
    shifts = [("shift", bits, step) for bits in (1, 2, 4, 10) for step in (1, 2, 3, 7, 20)]
    roughs = [("rough", bits) for bits in (1, 2, 3)]
    return counts + shifts + roughs


def last_of(rule):
    if rule[0] == "shift":
        return 2 ** (rule[1] + 1) - 1
    return 2 ** rule[1] - 1


def end_of(rule):
    return 0 if rule[0] == "shift" else last_of(rule)


def marks_of(rule):
    return range(last_of(rule) + 1)


def one_moment(rule, mark, moment):
    """The mark behind the ageing at the beginning of this moment."""
    if never_ages_in(rule, moment) or mark == end_of(rule):
        return mark
    if rule[0] == "rough":
        return mark + 1 if moment % 2 ** mark == 0 else mark
    return mark + 1 if rule[0] == "count" else mark // 2


def never_ages_in(rule, moment):
    return moment == 0 or (rule[0] != "rough" and moment % rule[2] != 0)


def slowly_aged(rule, mark, begin, end):
    for moment in range(begin + 1, end + 1):
        if mark == end_of(rule):
            break
        mark = one_moment(rule, mark, moment)
    return mark


def slowly_seen(rule, mark):
    if rule[0] != "shift":
        return 0
    return mark + 2 ** rule[1] if mark < 2 ** rule[1] else mark


def mark_of_seen_once(rule, then, now):
    """The mark now of a thing that was seen in the moment then, and never else."""
    mark = end_of(rule)
    for moment in range(now + 1):
        mark = one_moment(rule, mark, moment)
        if moment == then:
            mark = slowly_seen(rule, mark)
    return mark


def slow_reach(rule):
    """The most moments that a thing, whenever it was seen, goes on without the end."""
    turn = 64 if rule[0] == "rough" else rule[2]
    return min(moments_without_end(rule, mark, begin)
               for mark in marks_when_seen(rule) for begin in range(2 * turn))


def moments_without_end(rule, mark, begin):
    """For how many moments this mark, from begin on, does not come to the end."""
    now = begin
    while mark != end_of(rule):
        now += 1
        mark = one_moment(rule, mark, now)
    return now - begin - 1


def marks_when_seen(rule):
    """All marks that a thing may have when it is just seen."""
    return {slowly_seen(rule, mark) for mark in marks_of(rule)}


def spans_from(rule, first, told_from, last):
    """For each moment from told_from to last: (moment, the span of each mark), by all
    moments from first on at which a thing may have been last seen."""
    fresh = marks_when_seen(rule)
    under_way = []
    ended = []
    for now in range(first, last + 1):
        # Each set holds what marks a thing may have that was last seen in that moment.
        if not never_ages_in(rule, now):
            under_way = [(then, {one_moment(rule, mark, now) for mark in marks})
                         for then, marks in under_way]
        ended += [then for then, marks in under_way if marks == {end_of(rule)}]
        under_way = [(then, marks) for then, marks in under_way if marks != {end_of(rule)}]
        under_way.append((now, fresh))
        if now >= told_from:
            yield now, spans_of(rule, now, under_way, ended)


def spans_of(rule, now, under_way, ended):
    found = {mark: [] for mark in marks_of(rule)}
    found[end_of(rule)] += [now - then for then in ended]
    for then, marks in under_way:
        for mark in marks:
            found[mark].append(now - then)
    told = {}
    for mark, agos in found.items():
        least = min(agos, default=None)
        most = None if mark == end_of(rule) else max(agos, default=None)
        told[mark] = (least, most)
    return told


def longest_to_end(rule):
    """As many moments as surely bring a thing that is not seen to the end."""
    if rule[0] == "count":
        return 2 ** rule[1] * rule[2]
    if rule[0] == "shift":
        return (rule[1] + 2) * rule[2]
    return 2 * 2 ** (2 ** rule[1] - 2)


class SlowBoard:
    """A board whose time goes by moment by moment, and that knows when things were seen."""

    def __init__(self, rule, things):
        self.rule = rule
        self.marks = [end_of(rule)] * things
        self.last_seen = [None] * things
        self.now = 0

    def see(self, thing):
        self.marks[thing] = slowly_seen(self.rule, self.marks[thing])
        self.last_seen[thing] = self.now

    def pass_by(self, many):
        for _ in range(many):
            self.now += 1
            self.marks = [one_moment(self.rule, mark, self.now) for mark in self.marks]

    def truly_oldest(self):
        """The things that were never seen, or else those that were not for the longest."""
        if None in self.last_seen:
            first = None
        else:
            first = min(self.last_seen)
        return [thing for thing, then in enumerate(self.last_seen) if then == first]


class Numbers:
    """Numbers that look like chance, and are the same in every run."""

    def __init__(self, start):
        self.state = start

    def below(self, bound):
        self.state = (self.state * 6364136223846793005 + 1442695040888963407) % 2 ** 64
        return (self.state >> 33) % bound
