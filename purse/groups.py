"""Groups: voters who were left behind, and voters who hang together by their wishes."""

from purse.towns import common_of, cost_of, wanters_of


def longer_lists(lists, count):
    longer = []
    for works in lists:
        # Only works beyond the last one, so that each list rises and the least of one length stand first.
        least = works[-1] + 1 if works else 0
        for work in range(least, count):
            longer.append(works + [work])
    return longer


def work_lists(count):
    told = []
    lists = longer_lists([[]], count)
    while lists:
        told.extend(lists)
        lists = longer_lists(lists, count)
    return told


def wanted_among(wanted, works):
    return len([work for work in wanted if work in works])


def group_of(wishes, asked, works):
    return [voter for voter in common_of(wishes, asked) if wanted_among(wishes[voter], works) < len(asked)]


def could_pay(coins, costs, wishes, asked, group):
    # Both sides are multiplied with the number of all voters, so that no coin is cut.
    return coins * len(group) >= cost_of(costs, asked) * len(wishes)


def wronged(coins, costs, wishes, works):
    for asked in work_lists(len(costs)):
        group = group_of(wishes, asked, works)
        if group and could_pay(coins, costs, wishes, asked, group):
            return (asked, group)
    return None


def joined(leasts, voters):
    meeting = [leasts[voter] for voter in voters]
    return [min(meeting) if least in meeting else least for least in leasts]


def members_of(leasts, party):
    return [voter for voter, least in enumerate(leasts) if least == party]


def parties_of(costs, wishes):
    # A party goes by its least voter, and at first each voter is one alone.
    leasts = list(range(len(wishes)))
    for work in range(len(costs)):
        leasts = joined(leasts, wanters_of(wishes, work))
    return [members_of(leasts, party) for party in sorted(set(leasts))]
