"""Notes as numbers: names, rows, and masks of what lies under each; how such a web is told."""


def bare_mask(row, unders, number):
    """What a note of a row must be told to wait for: what lies just under it, but for its own note ahead."""
    tops = top_mask(unders, unders[number] & ~(1 << number))
    level = row.index(number)
    if level == 0:
        return tops
    # A note waits for its hand's last one ahead anyway.
    return tops & ~(1 << row[level - 1])


def top_mask(unders, mask):
    """The notes of a mask that lie under no other one of it."""
    covered = 0
    for at in mask_numbers(mask):
        covered = covered | unders[at] & ~(1 << at)
    return mask & ~covered


def mask_numbers(mask):
    """The numbers of the bits of a mask."""
    return [at for at in range(mask.bit_length()) if mask >> at & 1]


def sendable(by_name, unders, mask, whole):
    """The notes of a whole that can be sent next when a mask is sent, by their names."""
    rest = whole & ~mask
    return [at for at in by_name if rest >> at & 1 and unders[at] & ~mask == 1 << at]


def least_numbers(by_name, unders):
    """All notes in the order that has the least name at each place."""
    order = []
    mask = 0
    whole = (1 << len(unders)) - 1
    while mask != whole:
        at = sendable(by_name, unders, mask, whole)[0]
        order.append(at)
        mask = mask | 1 << at
    return order


def mask_names(names, mask):
    """The lot of the names of a mask."""
    return tuple(sorted([names[at] for at in mask_numbers(mask)]))


def bare_notes(hands, rows, names, unders):
    """The notes in the least order, each told with its bare waits."""
    owners = {at: number for number, row in enumerate(rows) for at in row}
    by_name = sorted(list(owners), key=lambda place: names[place])
    notes = []
    for at in least_numbers(by_name, unders):
        number = owners[at]
        notes.append((names[at], hands[number], mask_names(names, bare_mask(rows[number], unders, at))))
    return tuple(notes)
