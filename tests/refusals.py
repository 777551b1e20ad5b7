"""Lists that are refused, and numbers beyond their bounds, for the tests of each function."""

from lists import doubling, one_below_bound, row_by_first, row_by_second

LONG_MIN, LONG_MAX = -2 ** 63, 2 ** 63 - 1
INT_MIN, INT_MAX = -2147483648, 2147483647

WRONG_COUNTS = (0, -1, -256, 257, 258, INT_MIN, INT_MAX)

# Of patterns.
WRONG_SIZES = (0, -1, -64, 65, 66, 128, INT_MIN, INT_MAX)

# A rule that names itself or a later one.
BAD_LISTS = [
    (1, [256, 97]),
    (1, [97, 256]),
    (2, [257, 97, 97, 98]),
    (2, [97, 257, 97, 98]),
    (3, [97, 98, 97, 257, 97, 98]),
    (256, row_by_first(255) + [511, 97]),
    (256, row_by_second(255) + [97, 65535]),
    (256, doubling(255) + [510, 511]),
]

# A text of 2^60 letters or more.
LONG_LISTS = [
    (60, doubling(60)),
    (119, one_below_bound() + [373, 97]),
    (119, one_below_bound() + [97, 373]),
    (256, doubling(256)),
    (65, doubling(64) + [319, 256]),
]
