"""Who wins the game of POSITIONS: the guard, or the program that feeds it deeds."""

START = ("even", 0)


def coming_moves(rules):
    """Each POSITION that comes from the start by any ANSWERS, with its moves for each deed."""
    table = {}
    waiting = [START]
    while waiting:
        position = waiting.pop()
        if position not in table:
            rows = [rules.moves(position, deed) for deed in range(rules.deeds)]
            table[position] = rows
            waiting.extend([behind for row in rows for behind in row.values()])
    return table


def lost_positions(table):
    """The POSITIONS at which a program defeats any guard, each with the pair of a DEED and a RANK.

    They stand with the lesser RANKS first; each RANK is the least one.
    """
    lost = {}
    rank = 0
    while True:
        found = _lost_by_one_deed(table, lost)
        if not found:
            return lost
        for position, deed in found:
            lost[position] = (deed, rank)
        rank += 1


def _lost_by_one_deed(table, lost):
    """Pairs of a POSITION and a deed, all ANSWERS to which lead to what is known to be lost."""
    found = []
    for position, rows in table.items():
        if position not in lost:
            for deed, row in enumerate(rows):
                if all([behind in lost for behind in row.values()]):
                    found.append((position, deed))
                    break
    return found
