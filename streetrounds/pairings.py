"""Which corners of two-way streets are odd, and how to pair them least."""


def odd_corners(corners, streets):
    """Tell the corners at which an odd number of streets ends."""
    ends = [0] * corners
    for begin, end, _, _ in streets:
        ends[begin] += 1
        ends[end] += 1
    return [corner for corner in range(corners) if ends[corner] & 1]


def least_pairing(odd, table):
    """Tell how far it is between the pairs in all, and the pairs, as near as can be."""
    if not odd:
        return 0, []
    first, *others = odd
    best = None
    for place, other in enumerate(others):
        left_far, left_pairs = least_pairing(others[:place] + others[place + 1:], table)
        all_far = table[first][other] + left_far
        if best is None or all_far < best[0]:
            best = (all_far, [(first, other), *left_pairs])
    return best
