"""How one list of lines differs from another: the first of the ways with the fewest drops and takes.

Let L(i, j) be the most lines that can be kept of old[i:] and new[j:]. Walked from the front, a same line is kept
(no other step leads to more); else a drop loses nothing just where L(i, j) = L(i + 1, j), and comes before a take.
"""


# Bit 0 is the last line, since L is found from the back.
def line_masks(old):
    masks = {}
    bit = 1
    for line in reversed(old):
        masks[line] = masks.get(line, 0) | bit
        bit = bit << 1
    return masks


# In row j the bit of old's line i is set just where L(i, j) = L(i + 1, j). A whole row comes out of the one behind
# it by a few steps on long numbers: going over each pair of lines by itself takes seconds for the longest texts.
def droppable_rows(old, new):
    masks = line_masks(old)
    full = (1 << len(old)) - 1
    row = full
    rows = []
    for line in reversed(new):
        same = row & masks.get(line, 0)
        row = ((row + same) | (row - same)) & full
        rows.append(row)
    rows.reverse()
    return rows


def same_ahead(old, new):
    most = min(len(old), len(new))
    count = 0
    while count < most and old[count] == new[count]:
        count += 1
    return count


# Same lines at the front are skipped to save time. Those at the back must not be: of a = C B, b = B B the first way
# keeps b's first B, not its last.
def kept_pairs(old, new):
    ahead = same_ahead(old, new)
    pairs = [(place, place) for place in range(ahead)]
    rows = droppable_rows(old[ahead:], new[ahead:])
    last = len(old) - 1
    i = ahead
    j = ahead
    while i < len(old) and j < len(new):
        if old[i] == new[j]:
            pairs.append((i, j))
            i += 1
            j += 1
        elif (rows[j - ahead] >> (last - i)) & 1 == 1:
            i += 1
        else:
            j += 1
    return pairs


# A run: from which line of old, how many are dropped, from which line of new, how many are taken.
def differing_runs(old, new):
    runs = []
    i = 0
    j = 0
    for kept_old, kept_new in kept_pairs(old, new) + [(len(old), len(new))]:
        if kept_old > i or kept_new > j:
            runs.append((i, kept_old - i, j, kept_new - j))
        i = kept_old + 1
        j = kept_new + 1
    return runs
