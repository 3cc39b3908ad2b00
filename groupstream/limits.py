"""The document's bounds. A name with END is the first number that is too great, one with MOST the last that isn't."""

# 2^32, 2^50 and 2^40, written out because a module's top holds plain values alone.
GROUP_END = 4294967296
TIME_END = 1125899906842624
WAIT_MOST = 1099511627776

DATA_MOST = 16
REPAIR_MOST = 16
ROW_MOST = 64

GROUPS_HELD = 16
POINTS_HELD = 64
