"""Least and greatest sums over rules.

A rule is a triple (head, cost, body): the head comes from the body, a tuple of
numbers and of other heads, at this cost and at that of each head in the body.
Heads are tuples, costs numbers. A head can have several rules.
"""

from heapq import heapify, heappop, heappush

from outandover.kinds import is_number


def least_sums(rules):
    """For each head that can come: the pair of its least sum and of a body that gives it.

    The heads stand in an order in which those of a body come before its own head.
    """
    users = users_of(rules)
    lacking = [len(heads_in(body)) for _, _, body in rules]
    queue = [(rule[1], k) for k, rule in enumerate(rules) if lacking[k] == 0]
    heapify(queue)
    sums = {}
    while queue:
        total, k = heappop(queue)
        head, _, body = rules[k]
        # Sums only grow from body to head, so the first one that turns up is the least.
        if head not in sums:
            sums[head] = (total, body)
            for at in freed_by(head, users, lacking):
                heappush(queue, (sum_of(rules[at], sums), at))
    return sums


def greatest_sums(rules):
    """For each head that has a greatest sum: the pair of it and of a body that gives it.

    A head that leads into a ring of heads has none: costs in a ring must be at least 1 in all.
    """
    possible = least_sums(rules)
    rules = [rule for rule in rules if all([head in possible for head in heads_in(rule[2])])]
    users = users_of(rules)
    lacking = [len(heads_in(body)) for _, _, body in rules]
    left = many_by_head(rules)
    waiting = [k for k in range(len(rules)) if lacking[k] == 0]
    sums = {}
    while waiting:
        k = waiting.pop()
        head, _, body = rules[k]
        total = sum_of(rules[k], sums)
        if head not in sums or total > sums[head][0]:
            sums[head] = (total, body)
        left[head] = left[head] - 1
        if left[head] == 0:
            waiting.extend(freed_by(head, users, lacking))
    return {head: sums[head] for head in sums if left[head] == 0}


def freed_by(head, users, lacking):
    """The indexes of the rules that lack no head any more once this one has come; lacking is told of it."""
    freed = []
    for at in users.get(head, []):
        lacking[at] = lacking[at] - 1
        if lacking[at] == 0:
            freed.append(at)
    return freed


def many_by_head(rules):
    """For each head how many rules it has."""
    many = {}
    for head, _, _ in rules:
        many[head] = many.get(head, 0) + 1
    return many


def heads_in(body):
    """The heads in a body."""
    return [part for part in body if not is_number(part)]


def users_of(rules):
    """For each head the indexes of the rules in whose bodies it stands, once for each time."""
    users = {}
    for k, (_, _, body) in enumerate(rules):
        for head in heads_in(body):
            users.setdefault(head, []).append(k)
    return users


def sum_of(rule, sums):
    """The sum by a rule, from those of the heads in its body."""
    return rule[1] + sum([sums[head][0] for head in heads_in(rule[2])])
