"""Come papers: that a check may come to a place, or a run that bars it."""

from firstfault.coming import check_usable, quiet_arrivals
from firstfault.running import complaints_by


def come_paper(program, key, place):
    """Return a come paper for the check with this key and the place; the errors of may_come."""
    check_usable(program, key, place)
    rows = quiet_arrivals(program, complaints_by(program, key), place)
    bars = [state for state, at in rows if at is None]
    return ("bars", bars[0]) if bars else ("comes", tuple(rows))
