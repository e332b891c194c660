"""The ways that there are by what is known of each router, and what they cost."""


def road_cost(known, u, v):
    """What the road from u to v costs, which is what u says; 0 where there is none."""
    if u not in known or v not in known:
        return 0
    # A road that v does not tell of, too, is not there.
    if known[v].cost_to(u) == 0:
        return 0
    return known[u].cost_to(v)


def roads_into(known, v):
    """The roads that lead to v: (router that they come from, cost)."""
    if v not in known:
        return []
    # Both ends tell of a road, so that those which v tells of are all that may come in.
    into = [(u, road_cost(known, u, v)) for u, back in known[v].roads]
    return [(u, cost) for u, cost in into if cost > 0]


def least_costs_to(known, d):
    """The least cost to d from each router that has a way there, by its name; from d itself 0."""
    least = {}
    reached = {d: 0}
    while reached:
        # No other way can come out cheaper than the cheapest so far: every road costs something.
        so_far, v = min([(reached[name], name) for name in reached])
        reached.pop(v)
        least[v] = so_far
        for u, cost in roads_into(known, v):
            if u not in least:
                reached[u] = min(so_far + cost, reached.get(u, so_far + cost))
    return least
