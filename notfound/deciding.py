"""Which facts are yes, no or open, and the steps by which that is told."""

from collections import deque

from notfound.checking import check
from notfound.filling import filled_rules


def facts_of(filled):
    """A new list of the facts in filled rules, each as often as it stands there."""
    facts = []
    for _, head, yeses, nots in filled:
        facts.extend([head, *yeses, *nots])
    return facts


def marked(facts):
    """A new dict that has the facts as its keys, to look them up in."""
    return {fact: True for fact in facts}


def places_by_yes(filled, places):
    """A dict from facts to those of the places whose rules have them as yeses."""
    users = {}
    for place in places:
        for fact in filled[place][2]:
            users.setdefault(fact, []).append(place)
    return users


def chained(filled, places, held):
    """A list of pairs (head, place): what follows from the held facts and the yeses alone.

    Only the rules at the places count. No head is a held one and none stands twice;
    each yes of a pair's rule is a held fact or the head of an earlier pair.
    """
    met = marked(held)
    users = places_by_yes(filled, places)
    pairs = []
    queue = deque(places)
    while queue:
        place = queue.popleft()
        _, head, yeses, _ = filled[place]
        if head not in met and all(fact in met for fact in yeses):
            met[head] = True
            pairs.append((head, place))
            # A rule that was looked at too early has its turn again.
            queue.extend(users.get(head, []))
    return pairs


def entered(filled, told, refuted):
    """A new list of pairs (fact, place in filled) of the facts that come to be yes."""
    no = marked(refuted)
    places = []
    for place, (_, head, _, nots) in enumerate(filled):
        if head not in no and all(fact in no for fact in nots):
            places.append(place)
    return chained(filled, places, told)


def enterable(filled, told, refuted):
    """A list of pairs (fact, place in filled) of the facts that may still come to be yes.

    They are what follows where a not only holds off its rule if it was told yes.
    """
    yes = marked(told)
    no = marked(refuted)
    places = []
    for place, (_, _, yeses, nots) in enumerate(filled):
        if not any(fact in no for fact in yeses) and not any(fact in yes for fact in nots):
            places.append(place)
    return chained(filled, places, told)


def kept_out(filled, told, refuted):
    """A new list, in order, of the greatest set of facts that come to be no all at once."""
    # A fact that may still be entered is in no such set, and all others are one together.
    heads = [head for head, _ in enterable(filled, told, refuted)]
    others = marked([*told, *refuted, *heads])
    return sorted({fact for fact in facts_of(filled) if fact not in others})


class Verdict:
    """What is told of the facts; `decided` alone makes one, and its fields are only read."""

    def __init__(self, filled, story, told, refuted):
        answers = {fact: "open" for fact in facts_of(filled)}
        for fact in told:
            answers[fact] = "yes"
        for fact in refuted:
            answers[fact] = "no"
        self.filled = filled
        self.story = story
        self.left = sorted([fact for fact in answers if answers[fact] == "open"])
        self._answers = answers

    def said(self, fact):
        """What is told of a fact: "yes", "no" or "open"."""
        return self._answers.get(fact, "no")


def decided(given, rules):
    """The Verdict on given facts and rules; refuses as `check` does."""
    check(given, rules)
    filled = filled_rules(given, rules)
    told = list(marked(given))
    refuted = []
    story = [("yes", fact, -1) for fact in told]
    more = True
    while more:
        pairs = entered(filled, told, refuted)
        told.extend([fact for fact, _ in pairs])
        story.extend([("yes", fact, place) for fact, place in pairs])
        facts = kept_out(filled, told, refuted)
        # Without new facts that are no, nothing new can be entered either.
        more = len(facts) > 0
        if more:
            refuted.extend(facts)
            story.append(("no", facts))
    return Verdict(filled, story, told, refuted)
