"""Rounds: each lot puts in the least way that leads out of it, all at once."""

from lotjoin.lots import lots_of
from lotjoin.roads import least_of, ways_out


def round_of(web, ways):
    outs = [ways_out(web, lot) for lot in lots_of(web, ways)]
    # Two lots may put in the same way, from both its ends.
    return sorted(set([least_of(web, out) for out in outs if len(out) > 0]))


def rounds_of(web):
    rounds = []
    ways = []
    come = round_of(web, ways)
    while len(come) > 0:
        rounds.append(come)
        ways = ways + come
        come = round_of(web, ways)
    return rounds
