"""Which minds can come to be heard by all, and by which words.

A mind is followed through the days here: from the lot of those that it has reached to all who hear some of them.
"""

from alwaysagree.agreeing import ears_by_ways, heard_by_each, lot_of, minds_in
from alwaysagree.councils import check_council, check_mind
from alwaysagree.days import check_word


def listeners_by_ways(council):
    """For each way of a council, at the index that is a lot, the lot of all minds that hear some of it."""
    return ears_by_ways([heard_by_each(list(zip(*way))) for way in council.ways])


def word_to_all(own, listeners, many):
    """The first one of the shortest words by which the mind at an index reaches all of so many; None if none does."""
    everyone = lot_of(list(range(many)))
    words = {lot_of([own]): ()}
    ends = [lot_of([own])]
    # The ends stand in the order of their words, so the first word to a lot is the first one of its length.
    while ends and everyone not in words:
        further = []
        for end in ends:
            for way, listeners_of in enumerate(listeners):
                lot = listeners_of[end]
                if lot not in words:
                    words[lot] = words[end] + (way,)
                    further.append(lot)
        ends = further
    return words.get(everyone)


def lot_reached(own, listeners, word):
    """The lot of the minds of which the mind at an index is a source after a word of any length."""
    lot = lot_of([own])
    for way in word:
        lot = listeners[way][lot]
    return lot


def voice_word(council, mind):
    """The shortest word after which a mind is a source of all, the first one of these; None if there is none."""
    check_council(council)
    check_mind(council, mind)
    return word_to_all(council.minds.index(mind), listeners_by_ways(council), len(council))


def voices(council):
    """The minds that are, each after some word, a source of all minds, in order."""
    check_council(council)
    listeners = listeners_by_ways(council)
    words = [word_to_all(at, listeners, len(council)) for at in range(len(council))]
    return tuple([mind for mind, word in zip(council.minds, words) if word is not None])


def reached(council, mind, word):
    """The minds of which a mind is a source after a word, in order."""
    check_council(council)
    check_mind(council, mind)
    check_word(council, word)
    lot = lot_reached(council.minds.index(mind), listeners_by_ways(council), word)
    return minds_in(council, lot)
