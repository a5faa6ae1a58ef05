"""The ranks of those who took part."""


def ranks_of(standings):
    """The rank of each; of two standings the lesser is the better one."""
    rank_by_standing = {}
    for better, standing in enumerate(sorted(standings)):
        # The first of like ones has before it just those that are better than all of them.
        if standing not in rank_by_standing:
            rank_by_standing[standing] = better + 1
    return [rank_by_standing[standing] for standing in standings]
