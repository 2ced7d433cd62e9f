"""Forms of stages that give the same items, whatever they ask and call, and when."""


def simplified(stages):
    """Stages that give the same items, in a form that many of those have in common.

    Skips and takes stand as early as they can: things that are gone later need not be told
    apart until then.
    """
    found = []
    for stage in stages:
        found = simplified_behind(found, stage)
    return found


def simplified_behind(stages, stage):
    """Simplified stages and one more behind them."""
    kind = stage[0]
    if kind == "gather":
        return stages
    last = stages[-1][0] if stages else "from"
    if kind == "flat" and last == "lots":
        return stages[:-1]
    if kind in ("skip", "take") and last in ("map", "lots", "skip", "take"):
        return with_number_behind(stages[:-1], stages[-1], stage)
    return stages + [stage]


def with_number_behind(stages, last, stage):
    """Simplified stages, and behind them a map, lots, skip or take, and a skip or take."""
    kind, number = stage
    if last[0] == "map":
        return simplified_behind(stages, stage) + [last]
    if last[0] == "lots":
        return simplified_behind(stages, (kind, number * last[1])) + [last]
    if last[0] == kind:
        return stages + [(kind, number + last[1] if kind == "skip" else min(number, last[1]))]
    if last[0] == "take" and number < last[1]:
        return simplified_behind(stages, stage) + [("take", last[1] - number)]
    return stages + [last, stage]
