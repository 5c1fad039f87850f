"""When the numbers of a question can have no gap."""

from mixedbags.arguments import check_moment, check_reports


def has_no_gap_reason(history, trusted, moment):
    """Return whether no event from the moment on is a trusted report or a new with a known mark."""
    check_moment(history, moment)
    check_reports(history, trusted)
    for at in range(moment, len(history[1])):
        event = history[1][at]
        if at in trusted or (event[0] == "new" and event[2] is not None):
            return False
    return True
