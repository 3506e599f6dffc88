"""A log that is carried from one disk to another."""

from ringlog.blocks import length_of
from ringlog.errors import Full, Gone
from ringlog.log import Log


def carry(old, new):
    """Bring all rows that stand on the old disk's log to the log of the new one."""
    source = Log(old)
    if source.gone():
        raise Gone("the log has gone to another disk")
    rows = source.rows()
    # One block of the new disk is kept free for a mark.
    if sum([length_of(row) for row in rows]) > new.blocks() - 1:
        raise Full("the rows have more blocks than the new disk has room for")
    target = Log(new)
    target.take_all()
    for row in rows:
        target.put(row)
    # The farewell comes last: until it is written, the old disk's log has all rows.
    source.leave()


def home(old, new):
    """Tell the disk of these two on which the log is, where it was carried from old to new."""
    if Log(old).gone():
        return new
    return old
