"""Which sets of people would rather be a group of their own, and which ways to be in groups hold or are perfect.

A set of people is a number: person i counts 2^i.
"""

REFUSAL = -22
NONE_SUCH = -33
MOST_PEOPLE = 5
LEAST_WORTH = -20
MOST_WORTH = 20


def people_are_as_told(n, worth):
    """Whether n is a number of people, and worth tells what each is worth to each."""
    if n < 1 or n > MOST_PEOPLE or len(worth) != n * n:
        return False
    # What one would be worth to oneself means nothing, but it is held to the same range.
    for value in worth:
        if value < LEAST_WORTH or value > MOST_WORTH:
            return False
    return True


def groups_are_as_told(n, groups):
    """Whether groups tells a number below n for each person."""
    if len(groups) != n:
        return False
    for group in groups:
        if group >= n:
            return False
    return True


def is_set_as_told(n, people):
    """Whether the number is a set of people, and not the empty one."""
    return people > 0 and people < (1 << n)


def is_in(person, people):
    """Whether the person is in the set."""
    return (people >> person) & 1 == 1


def group_of(n, groups, person):
    """The person's group, as a set."""
    # Only who shares a number counts, so groups numbered otherwise need not be renumbered here.
    people = 0
    for other in range(n):
        if groups[other] == groups[person]:
            people = people + (1 << other)
    return people


def what_one_has(n, worth, person, people):
    """What all others of the set are worth to the person, together."""
    total = 0
    for other in range(n):
        if other != person and is_in(other, people):
            total = total + worth[person * n + other]
    return total


def what_each_has(n, worth, groups):
    """What each person has, person by person."""
    return [what_one_has(n, worth, person, group_of(n, groups, person)) for person in range(n)]


def what_those_liked_come_to(n, worth, person):
    """What all those come to, together, who are worth more than 0 to the person."""
    total = 0
    for other in range(n):
        # Oneself is no other, even where one would be worth more than 0 to oneself.
        if other != person and worth[person * n + other] > 0:
            total = total + worth[person * n + other]
    return total


def would_leave(n, w, worth, groups, people):
    """Whether the set (not empty) would leave (w 0), or would leave weakly (w 1)."""
    one_has_more = False
    for person in range(n):
        if is_in(person, people):
            now = what_one_has(n, worth, person, group_of(n, groups, person))
            then = what_one_has(n, worth, person, people)
            if then < now or (w == 0 and then == now):
                return False
            if then > now:
                one_has_more = True
    return one_has_more


def how_it_would_leave(n, worth, groups, people):
    """2 if the set (not empty) would leave, 1 if only weakly, else 0."""
    if would_leave(n, 0, worth, groups, people):
        return 2
    if would_leave(n, 1, worth, groups, people):
        return 1
    return 0


def numbered_as_they_come(groups):
    """The same groups, numbered as they first come."""
    numbers = {}
    for group in groups:
        if group not in numbers:
            numbers[group] = len(numbers)
    return [numbers[group] for group in groups]


def left_by(n, groups, people):
    """The groups once the set is one of its own and all others stay as they were, numbered as they first come."""
    # All groups handed over have numbers below n, so n is free for the set.
    return numbered_as_they_come([n if is_in(person, people) else groups[person] for person in range(n)])


def all_sets(n):
    """All sets of people but the empty one, rising."""
    # Were the empty set to leave, as each of its nobody has more, no groups could hold.
    return list(range(1, 1 << n))


def lesser_sets_within(people):
    """All sets within the set but the empty one and the set itself, rising."""
    # Whatever lies within a set and lacks somebody of it is a lesser number too.
    return [lesser for lesser in range(1, people) if lesser & people == lesser]


def each_would_have_more(n, worth, people, whole):
    """Whether each of the set (not empty) would have more with just these than with the whole set around it."""
    for person in range(n):
        if is_in(person, people):
            if what_one_has(n, worth, person, people) <= what_one_has(n, worth, person, whole):
                return False
    return True


def is_firm(n, worth, people):
    """Whether of no lesser set within the set each would have more with just these."""
    for lesser in lesser_sets_within(people):
        if each_would_have_more(n, worth, lesser, people):
            return False
    return True


def all_ways(n):
    """All ways to be in groups, in order: by the first person whose group's number differs."""
    # Person 0's group is 0; each next person is in a group that is there already, or in the next new one.
    ways = [[0]]
    for person in range(1, n):
        longer = []
        for way in ways:
            for group in range(max(way) + 2):
                longer.append(way + [group])
        ways = longer
    return ways


def how_many_groups(way):
    """How many groups the way has."""
    # Its groups are numbered from 0 as they first come, so the greatest number tells.
    return max(way) + 1


def groups_hold(n, w, worth, groups):
    """Whether no set would leave (w 0), or none would leave even weakly (w 1)."""
    for people in all_sets(n):
        if would_leave(n, w, worth, groups, people):
            return False
    return True


def ways_that_hold(n, w, worth):
    """All ways to be in groups that hold (w 0), or hold weakly leaving (w 1), in order."""
    return [way for way in all_ways(n) if groups_hold(n, w, worth, way)]


def groups_are_perfect(n, worth, groups):
    """Whether each has just all those who are worth more than 0 to them, with nobody else but who is worth 0."""
    # Nothing is more than those liked come to: it's as much only with all of them and nobody who is worth less than 0.
    return what_each_has(n, worth, groups) == [what_those_liked_come_to(n, worth, person) for person in range(n)]


def leavers(n, w, worth, groups):
    """How many sets would leave (w 0), or would leave weakly (w 1); then these, rising."""
    if not people_are_as_told(n, worth) or not groups_are_as_told(n, groups) or w > 1:
        return [REFUSAL]
    found = [people for people in all_sets(n) if would_leave(n, w, worth, groups, people)]
    return [len(found)] + found


def core(n, w, worth):
    """How many of all ways to be in groups hold (w 0), or hold weakly leaving (w 1)."""
    if not people_are_as_told(n, worth) or w > 1:
        return [REFUSAL]
    return [len(ways_that_hold(n, w, worth))]


def nth(n, w, k, worth):
    """Of the way that holds before which there are k: how many groups, each person's group, what each has."""
    if not people_are_as_told(n, worth) or w > 1:
        return [REFUSAL]
    ways = ways_that_hold(n, w, worth)
    if k >= len(ways):
        return [NONE_SUCH]
    return [how_many_groups(ways[k])] + ways[k] + what_each_has(n, worth, ways[k])


def leave(n, s, worth, groups):
    """2 if the set would leave, 1 if only weakly, else 0; then, left by it, each person's group, what each has."""
    # The set is asked last: only an n that is as told may tell how many sets there are.
    if not people_are_as_told(n, worth) or not groups_are_as_told(n, groups) or not is_set_as_told(n, s):
        return [REFUSAL]
    left = left_by(n, groups, s)
    return [how_it_would_leave(n, worth, groups, s)] + left + what_each_has(n, worth, left)


def firm(n, worth):
    """How many sets are firm; then these, rising."""
    if not people_are_as_told(n, worth):
        return [REFUSAL]
    found = [people for people in all_sets(n) if is_firm(n, worth, people)]
    return [len(found)] + found


def perfect(n, worth):
    """How many groups the first perfect way to be in groups has; then each person's group."""
    if not people_are_as_told(n, worth):
        return [REFUSAL]
    for way in all_ways(n):
        if groups_are_perfect(n, worth, way):
            return [how_many_groups(way)] + way
    return [NONE_SUCH]
