"""Behind papers: what a "set" makes of the states that come to a check, or two that it makes the same."""

from firstfault.gobehind import rows_behind


def behind_paper(program, key):
    """Return a behind paper for the check with this key; the errors of may_go_behind."""
    rows = rows_behind(program, key)
    failing = [(state, later) for state, later, holds in rows if not holds]
    holding = [(state, later) for state, later, holds in rows if holds]
    same = [("same", one, other) for one, later in failing for other, there in holding if later == there]
    return same[0] if same else ("goes", tuple([(state, later) for state, later, holds in rows]))
