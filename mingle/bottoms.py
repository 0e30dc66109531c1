"""Components of a graph, the closed ones among them, and from where places can be reached."""


def step_rows(graph):
    """For each number the numbers to which a step leads."""
    return [graph.steps(number) for number in range(len(graph))]


def turned(rows):
    """For each number the numbers from which a step leads to it."""
    back = [[] for _ in rows]
    for number, row in enumerate(rows):
        for following in row:
            back[following].append(number)
    return back


def _gathered(rows, starts, seen):
    """The ascending list of what is found along the rows from the starts; marks it as seen, and passes by what was."""
    waiting = list(starts)
    found = []
    while waiting:
        here = waiting.pop()
        if not seen[here]:
            seen[here] = True
            found.append(here)
            waiting.extend(rows[here])
    return sorted(found)


def _leaving_order(rows):
    """All numbers, in the order in which a search in depth from the first place leaves them."""
    entered = [False] * len(rows)
    order = []
    waiting = [(0, False)]
    while waiting:
        here, leaves = waiting.pop()
        if leaves:
            order.append(here)
        elif not entered[here]:
            entered[here] = True
            # What waits above this pair is found from here, so it is left before.
            waiting.append((here, True))
            waiting.extend([(following, False) for following in rows[here]])
    return order


def components(graph):
    """The largest regions in which each place can be reached from each other one, ordered by their first numbers."""
    rows = step_rows(graph)
    back = turned(rows)
    seen = [False] * len(rows)
    found = []
    # Of the places that are not seen yet, the one that was left last is reached only from its own component.
    for number in reversed(_leaving_order(rows)):
        if not seen[number]:
            found.append(_gathered(back, [number], seen))
    return sorted(found)


def _is_closed(graph, region):
    """True if each successor of a place of the region is in it."""
    members = set(region)
    for number in region:
        for following in graph.steps(number):
            if following not in members:
                return False
    return True


def bottoms(graph):
    """The closed components, in their order."""
    return [region for region in components(graph) if _is_closed(graph, region)]


def can_reach(graph, numbers):
    """The ascending list of all places from which one of these can be reached, these included."""
    return _gathered(turned(step_rows(graph)), numbers, [False] * len(graph))
