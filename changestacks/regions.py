"""Regions of three texts: the base, ours and theirs, and what comes of them."""

from changestacks.texts import hunks_between, stretch_with

OURS = 0
THEIRS = 1


class Cluster:
    def __init__(self, place):
        self.place = place
        self.end = place
        self.ours = []
        self.theirs = []

    def take_in(self, side, hunk):
        if side == OURS:
            self.ours.append(hunk)
        else:
            self.theirs.append(hunk)
        self.end = max(self.end, hunk[0] + len(hunk[1]))


def clusters_of(ours_hunks, theirs_hunks):
    sided = [(hunk[0], OURS, hunk) for hunk in ours_hunks]
    sided.extend([(hunk[0], THEIRS, hunk) for hunk in theirs_hunks])
    clusters = []
    for place, side, hunk in sorted(sided):
        if not clusters or place > clusters[-1].end:
            clusters.append(Cluster(place))
        clusters[-1].take_in(side, hunk)
    return clusters


# Whole files and the regions within one are settled by the same rule: what
# only one side changed, or both sides alike, is no conflict.
def is_settled(base, ours, theirs):
    return ours == theirs or theirs == base or ours == base


def settled(base, ours, theirs):
    return theirs if ours == base else ours


# How many regions are conflicts, and the text put together of the others:
# it is of use only where there are none.
def merge_texts(base, ours, theirs):
    conflicts = 0
    text = ()
    begin = 0
    for cluster in clusters_of(hunks_between(base, ours), hunks_between(base, theirs)):
        text = text + base[begin:cluster.place]
        begin = cluster.end
        in_base = base[cluster.place:cluster.end]
        in_ours = stretch_with(base, cluster.place, cluster.end, cluster.ours)
        in_theirs = stretch_with(base, cluster.place, cluster.end, cluster.theirs)
        if is_settled(in_base, in_ours, in_theirs):
            text = text + settled(in_base, in_ours, in_theirs)
        else:
            conflicts += 1
    return (conflicts, text + base[begin:])
