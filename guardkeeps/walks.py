"""Ways through places: what comes first, if all RUNS are tried."""


def first_runs(start, ways):
    """For each place that comes from a start, the first RUN to it.

    ways(place) is a list of the places behind a place, one for each deed. RUNS with fewer deeds are
    first, those with as many in ascending order; in this order the places stand.
    """
    runs = {start: ()}
    newest = [start]
    while newest:
        found = []
        for place in newest:
            for deed, behind in enumerate(ways(place)):
                if behind not in runs:
                    runs[behind] = (*runs[place], deed)
                    found.append(behind)
        newest = found
    return runs
