"""Ways along links from place to place: for the other modules."""


def find_way(links, start, end):
    """Return a shortest way from a start to an end as the list of its places, or None if there is none.

    links is a dict from each place to the list of the places that one gets to from there in one step.
    """
    ways = {start: [start]}
    fresh = [start]
    while fresh and end not in ways:
        further = []
        for place in fresh:
            for after in links[place]:
                if after not in ways:
                    ways[after] = ways[place] + [after]
                    further.append(after)
        fresh = further
    return ways.get(end)
