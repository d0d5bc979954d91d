"""Councils that are changed by offers, or of which some ears are in doubt.

Whether a council always agrees hangs only on who hears whom, so no weights are kept here.
"""

from alwaysagree.agreeing import agree, heard_by_ways, lot_of
from alwaysagree.checks import is_index, is_same
from alwaysagree.councils import check_council, is_mind
from alwaysagree.errors import InvalidDoubts, InvalidOffers
from alwaysagree.limits import MOST_DOUBTS, MOST_OFFERS


def is_ear(council, way, mind, other):
    """Whether these are a way, a mind, and a mind that the first one does not hear by this way."""
    if not is_index(way, len(council.ways)) or not is_mind(council, mind) or not is_mind(council, other):
        return False
    return other not in council.hears(way, mind)


def is_offer(council, value):
    """Whether this is an offer for a council."""
    if not isinstance(value, tuple):
        return False
    if len(value) == 4 and is_same(value[0], "ear"):
        return is_ear(council, value[1], value[2], value[3])
    return len(value) == 2 and is_same(value[0], "strike") and is_index(value[1], len(council.ways))


def is_doubt(council, value):
    """Whether this is a doubt about a council."""
    return isinstance(value, tuple) and len(value) == 3 and is_ear(council, value[0], value[1], value[2])


def check_offers(council, offers):
    """Raises InvalidOffers for what are no offers for a council."""
    if not isinstance(offers, tuple):
        raise InvalidOffers(None)
    for at, offer in enumerate(offers):
        if not is_offer(council, offer) or offer in offers[:at] or at == MOST_OFFERS:
            raise InvalidOffers(at)


def check_doubts(council, doubts):
    """Raises InvalidDoubts for what are no doubts about a council."""
    if not isinstance(doubts, tuple):
        raise InvalidDoubts(None)
    for at, doubt in enumerate(doubts):
        if not is_doubt(council, doubt) or doubt in doubts[:at] or at == MOST_DOUBTS:
            raise InvalidDoubts(at)


def sets_of(many):
    """All sets of so many indexes, as ascending tuples, ordered by how many they have, then ascending."""
    found = []
    like = [()]
    while like:
        found.extend(like)
        # A set of one index more comes of each set of its first ones; there is no last one yet in the empty set.
        like = [chosen + (at,) for chosen in like for at in range(many) if len(chosen) == 0 or chosen[-1] < at]
    return found


def hearing_with(council, ears):
    """For each way of a council, for each mind, the lot that it hears with these ears more."""
    heard = heard_by_ways(council)
    for way, mind, other in ears:
        at = council.minds.index(mind)
        heard[way][at] = heard[way][at] | lot_of([council.minds.index(other)])
    return heard


def agrees_with(council, offers):
    """Whether a council always agrees if it takes these offers."""
    struck = [offer[1] for offer in offers if offer[0] == "strike"]
    heard = hearing_with(council, [offer[1:] for offer in offers if offer[0] == "ear"])
    left = [by_way for way, by_way in enumerate(heard) if way not in struck]
    return len(left) > 0 and agree(len(council), left)


def has_part(chosen, parts):
    """Whether a set has all indexes of one of these sets."""
    return any([all([at in chosen for at in part]) for part in parts])


def agreeing_sets(council, doubts):
    """All sets of these doubts with whose ears alone, of all doubts, the council always agrees."""
    found = []
    for chosen in sets_of(len(doubts)):
        if agree(len(council), hearing_with(council, [doubts[at] for at in chosen])):
            found.append(chosen)
    return found


def mending(council, offers):
    """All least sets of offers with which the council always agrees."""
    check_council(council)
    check_offers(council, offers)
    least = []
    for chosen in sets_of(len(offers)):
        # Smaller sets come first, so a set with a proper part that does it has a least one in it by now.
        if not has_part(chosen, least) and agrees_with(council, [offers[at] for at in chosen]):
            least.append(chosen)
    return tuple(least)


def doubtful(council, doubts):
    """With how many of all sets of these ears the council always agrees."""
    check_council(council)
    check_doubts(council, doubts)
    return len(agreeing_sets(council, doubts))


def telling_doubt(council, doubts):
    """The index of the doubt that tells most of whether the council always agrees; None if that is not in doubt."""
    check_council(council)
    check_doubts(council, doubts)
    sets = agreeing_sets(council, doubts)
    if len(sets) == 0 or len(sets) == len(sets_of(len(doubts))):
        return None
    with_ear = [len([chosen for chosen in sets if at in chosen]) for at in range(len(doubts))]
    greater = [max(many, len(sets) - many) for many in with_ear]
    return greater.index(min(greater))
