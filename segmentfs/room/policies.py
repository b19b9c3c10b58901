"""Policies: which segments are cleaned first."""

from segmentfs.room.segments import ages, candidates, live_counts

POLICIES = ("greedy", "oldest", "cost-benefit")


def order_candidates(log, policy):
    """Return the candidates in the order of the policy."""
    values = _values(log, policy)
    rows = [(-values[segment], segment) for segment in candidates(log)]
    return [segment for value, segment in sorted(rows)]


def _values(log, policy):
    """Return a number for each segment, the greater the sooner it is cleaned."""
    if policy == "greedy":
        return [-live for live in live_counts(log)]
    if policy == "oldest":
        return ages(log)
    return _scaled_benefits(log.layout.payload, live_counts(log), ages(log))


def _scaled_benefits(payload, lives, years):
    """Return the benefit by cost of each segment, times one and the same number, which makes it an integer."""
    scale = 1
    for live in lives:
        scale = scale * (payload + live)
    benefits = []
    for live, age in zip(lives, years):
        benefits.append((payload - live) * age * (scale // (payload + live)))
    return benefits
