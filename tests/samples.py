"""Webs that several tests go through."""

ONE_PLACE = (1, ())
LOOP = (1, ((0, 0),))
TWO_LOOPS = (1, ((0, 0), (0, 0)))
THREE_LOOPS = (1, ((0, 0),) * 3)
ONE_TIE = (2, ((1, 0),))
THETA = (2, ((0, 1), (1, 0), (0, 1)))
PATH = (4, ((2, 1), (0, 1), (3, 2)))
STAR = (5, ((0, 3), (3, 1), (2, 3), (3, 4)))
DUMBBELL = (2, ((0, 0), (0, 1), (1, 1)))
FOUR_ALL = (4, ((0, 1), (0, 2), (0, 3), (1, 2), (1, 3), (2, 3)))
THREE_BY_THREE = (6, tuple((a, b) for a in (0, 1, 2) for b in (3, 4, 5)))
SEVERAL = (7, ((1, 4), (6, 2), (4, 1), (2, 2), (1, 4), (6, 6)))
SCATTERED = (4, ((3, 3), (1, 1)))
NO_TIES = (25, ())
LONG_PATH = (25, tuple((k, k + 1) for k in range(24)))
LOOPS_24 = (1, ((0, 0),) * 24)
TIES_24 = (2, ((0, 1),) * 24)

SMALL_WEBS = (
    ONE_PLACE, LOOP, TWO_LOOPS, THREE_LOOPS, ONE_TIE, THETA, PATH, STAR, DUMBBELL, FOUR_ALL,
    THREE_BY_THREE, SEVERAL, SCATTERED,
)
WEBS = SMALL_WEBS + (NO_TIES, LONG_PATH, LOOPS_24, TIES_24)
