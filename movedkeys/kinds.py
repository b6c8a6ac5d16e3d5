"""The kinds of entries in a worker's queue, numbered as take answers them.

An entry is a tuple: its kind, then its numbers.
"""

EVENT = 1
ALARM = 2
MARK = 3
LEAVES = 4
AWAITED = 5
