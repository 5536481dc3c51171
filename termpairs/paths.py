"""The order of paths."""


def is_above(store, ranks, lefts, rights):
    """Whether a term is above another; each is given by the numbers of the terms at its places."""
    # Parts have lower numbers, so every answer that is asked for below is there already.
    lower = sorted(set(rights))
    table = {}
    for one in sorted(set(lefts)):
        row = {}
        table[one] = row
        for other in lower:
            row[other] = is_above_by_parts(store, ranks, table, one, other)
    return table[lefts[0]][rights[0]]


def is_above_by_parts(store, ranks, table, one, other):
    if reaches_from_part(store, table, one, other):
        return True
    if store.holds_variable(one) or store.holds_variable(other):
        return False
    for part in store.parts[other]:
        if not table[one][part]:
            return False
    head = store.heads[one]
    other_head = store.heads[other]
    if head != other_head:
        return ranks[head] < ranks[other_head]
    return is_above_where_differing(store, table, one, other)


def reaches_from_part(store, table, one, other):
    for part in store.parts[one]:
        if part == other or table[part][other]:
            return True
    return False


def is_above_where_differing(store, table, one, other):
    for part, other_part in zip(store.parts[one], store.parts[other]):
        if part != other_part:
            return table[part][other_part]
    return False
