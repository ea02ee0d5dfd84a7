"""Asked by names: nothing is kept, and each cell is gone into whenever it is wanted [23]."""

from wantway.books import check_asking
from wantway.doings import Doing, check_most
from wantway.goings import Ground

MOST_GOINGS = 2000


def by_names(book, F, worths, most, whole=False):
    """(outcome, count): what comes of an asking by names, and how many goings there were."""
    check_asking(book, F, worths)
    check_most(most, MOST_GOINGS)
    # What is made anew has the births, and starts from the things, of what was made there ahead: so it may have the
    # same numbers.
    doing = Doing(Ground(book, F, worths), most)
    outcome = doing.outcome(whole)
    return (outcome, doing.begun)
