"""What hands have seen: for each hand how many of its deeds, from the first one on."""


def has_seen(seen, mark):
    return mark[1] <= seen[mark[0]]


def covers(one, other):
    return all([theirs <= ours for ours, theirs in zip(one, other)])


def joined(one, other):
    return [max(ours, theirs) for ours, theirs in zip(one, other)]


def common(rows):
    # A copy, so that one row alone is not handed back as the answer.
    least = list(rows[0])
    for row in rows[1:]:
        least = [min(ours, theirs) for ours, theirs in zip(least, row)]
    return least


def newer(one, other):
    # Where the one is ahead, that must not make up for what it lacks elsewhere.
    return sum([max(theirs - ours, 0) for ours, theirs in zip(one, other)])
