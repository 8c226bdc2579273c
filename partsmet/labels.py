"""Claims that are noted under labels, and what they come to for the things that are kept.

Things and claims are dicts as told in deeds.py. Nothing here changes what it is passed.
"""

from partsmet.claims import is_true
from partsmet.commands import uses_of_claim
from partsmet.deeds import found_things, handed
from partsmet.errors import InvalidClaim, TooMany, UnknownName, UnlikeKinds

MOST_LABELS = 12


def claim_told(things, words):
    """The tuple that the words of a claim tell; whether it is a claim is not judged."""
    kind, values = handed(found_things(things, {}, uses_of_claim(words)))
    # Of a question the state has a kind of its own, which is not looked at.
    lead = [kind] if words[0] in ("least", "notleast") else []
    return tuple([words[0]] + lead + values)


def judged(things, words):
    """The tuple of the claim, as it is now, and whether it is true; None while it is gone."""
    try:
        claim = claim_told(things, words)
        return (claim, is_true(claim))
    except (UnknownName, UnlikeKinds, InvalidClaim, TooMany):
        return None


def claim_now(things, words):
    """The claim that the words tell now; None while it is gone."""
    found = judged(things, words)
    return None if found is None else found[0]


def label_state(things, words):
    """The state of a label under which the claim is noted."""
    found = judged(things, words)
    if found is None:
        return "gone"
    return "true" if found[1] else "false"


def states_of_labels(things, claims):
    """All labels with their states, as an answer tells them."""
    return joined_states([(label, label_state(things, claims[label])) for label in sorted(claims)])


def joined_states(states):
    """Tuples of labels and their states as an answer tells them."""
    return ", ".join([label + " " + state for label, state in states]) or "-"


def claims_behind(things, claims, words):
    """The claims that are noted behind the deed."""
    word, label = words[0], words[1]
    if word == "forget":
        return {each: claims[each] for each in claims if each != label}
    if word != "claim":
        return claims
    told = tuple(words[2:])
    # For the errors alone: a claim is noted whether it is true or not.
    is_true(claim_told(things, told))
    behind = {**claims, label: told}
    if len(behind) > MOST_LABELS:
        raise TooMany("labels", MOST_LABELS)
    return behind


def changes(ahead, behind):
    """How the states of labels differ between the tuples of things and claims ahead of a deed and behind it."""
    told = []
    for label in sorted(behind[1]):
        words = behind[1][label]
        if label not in ahead[1]:
            told.append((label, label_state(behind[0], words)))
        elif are_touched(ahead[0], behind[0], words):
            state = label_state(behind[0], words)
            if state != label_state(ahead[0], words):
                told.append((label, state))
    return joined_states(told)


def are_touched(things, new_things, words):
    """Whether under a name in the words of the claim something else is kept now; else its state cannot differ."""
    return any(things.get(name) != new_things.get(name) for name in words[1:])
