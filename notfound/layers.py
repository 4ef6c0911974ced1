"""The layers of the words of rules, and rings of words that go through a not."""

from collections import deque

from notfound.errors import NotLayered
from notfound.facts import patterns_of


def word_steps(rules):
    """A list of the steps (one, place, by, other) by which words hang on words."""
    steps = []
    for place, (head, yeses, nots) in enumerate(rules):
        steps.extend([(head[0], place, "yes", pattern[0]) for pattern in yeses])
        steps.extend([(head[0], place, "not", pattern[0]) for pattern in nots])
    return steps


def steps_by_word(steps):
    """A dict from words to lists of the steps that begin with them."""
    table = {}
    for step in steps:
        table.setdefault(step[0], []).append(step)
    return table


def ways_from(start, table):
    """A dict from each word that can be reached to a shortest list of steps to it."""
    ways = {start: []}
    queue = deque([start])
    while queue:
        word = queue.popleft()
        for step in table.get(word, []):
            other = step[3]
            if other not in ways:
                ways[other] = [*ways[word], step]
                queue.append(other)
    return ways


def word_ring(rules):
    """A new list of steps of words around a ring through a not; an empty one where there is none."""
    steps = word_steps(rules)
    table = steps_by_word(steps)
    for step in steps:
        one, _, by, other = step
        if by == "not":
            ways = ways_from(other, table)
            if one in ways:
                return [step, *ways[one]]
    return []


def least_numbers(rules):
    """A dict from words to the numbers of their layers, where no ring goes through a not."""
    numbers = {pattern[0]: 0 for rule in rules for pattern in patterns_of(rule)}
    steps = word_steps(rules)
    more = True
    while more:
        more = False
        for one, _, by, other in steps:
            least = numbers[other] + 1 if by == "not" else numbers[other]
            if numbers[one] < least:
                numbers[one] = least
                more = True
    return numbers


def layers(rules):
    """A new list of lists of words by their layers, those of each in order."""
    # Numbers would grow without end along a ring through a not.
    if word_ring(rules):
        raise NotLayered("a ring of words goes through a not")
    numbers = least_numbers(rules)
    many = max([number + 1 for number in numbers.values()], default=0)
    rows = [[] for _ in range(many)]
    for word in sorted(numbers):
        rows[numbers[word]].append(word)
    return rows
