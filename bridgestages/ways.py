"""Where moves lead: the stages to which they do, plans to the end, and how many props at once one needs."""


def ways_from(design, start):
    """Each stage to which moves lead from the start, by the fewest: the stage ahead of it and the move from there.

    The start is among them, with None.
    """
    # Stages are walked in the order in which they're found, moves from the least on. So the first way found to
    # a stage is one of the fewest moves, and of these the one whose first move that differs has the least number.
    moves = design.moves()
    ways = {start: None}
    found = [start]
    place = 0
    while place < len(found):
        stage = found[place]
        place = place + 1
        for move in moves:
            behind = design.stage_behind(stage, move)
            if behind is not None and behind not in ways:
                ways[behind] = (stage, move)
                found.append(behind)
    return ways


def plan_from(design, start):
    """The moves of the plan that leads from the start to the end, or None where there's no plan."""
    ways = ways_from(design, start)
    end = design.end()
    if end not in ways:
        return None
    moves = []
    way = ways[end]
    while way is not None:
        moves.append(way[1])
        way = ways[way[0]]
    return list(reversed(moves))


def furthest(design, stages):
    """Of the stages that with the most pieces, of as many the one with the least number."""
    return min(stages, key=lambda stage: (-design.pieces_there(stage), stage))


def props_needed(design):
    """The fewest props at once with which there's a plan from the empty stage, or None where all are too few."""
    for at_once in range(design.props + 1):
        if plan_from(design.with_at_once(at_once), 0) is not None:
            return at_once
    return None
