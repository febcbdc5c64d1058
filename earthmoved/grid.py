"""Which squares lie beside which: numbered from 0 row by row, in a field of w by h.

A way is 0 above, 1 right, 2 below, 3 left.
"""

WAYS = 4


# The square that lies that way, or None if the field ends there.
def square_beside(w, h, s, d):
    x = s % w
    if d == 0:
        return s - w if s >= w else None
    if d == 1:
        return s + 1 if x + 1 < w else None
    if d == 2:
        return s + w if s + w < w * h else None
    return s - 1 if x > 0 else None


def squares_beside(w, h):
    beside = []
    for s in range(w * h):
        near = [square_beside(w, h, s, d) for d in range(WAYS)]
        beside.append([b for b in near if b is not None])
    return beside
