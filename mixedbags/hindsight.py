"""Which reports force a question into allowed numbers."""

from mixedbags.arguments import check_candidates
from mixedbags.strays import Strays, forcing_choices


def forcing_sets(history, trusted, candidates, moment, places, allowed):
    """Return the ascending tuple of all minimal forcing sets of candidates."""
    check_candidates(history, trusted, candidates, moment, places)
    strays = Strays(history, trusted, moment, places, allowed)
    return tuple(sorted(forcing_choices(strays, candidates)))
