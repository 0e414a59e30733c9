"""The calls by name, and what is answered to them, call by call."""

from whoisthere.world import answers


def begin(nodes, wait, patience):
    return [0, nodes, wait, patience]


def probe(node, whom):
    return [1, node, whom]


def tick(node):
    return [2, node]


def take(letter):
    return [3, letter]


def keep(letter):
    return [4, letter]


def lose(letter):
    return [5, letter]


def stop(node):
    return [6, node]


def start(node):
    return [7, node]


def letters():
    return [8]


def node(which):
    return [9, which]


def sees(node):
    return [10, node]


def blames():
    return [11]


def play(*calls):
    """The answers, one list a call, without the counts ahead of them."""
    given = answers([number for call in calls for number in call])
    split = []
    at = 0
    while at < len(given):
        split.append(given[at + 1:at + 1 + given[at]])
        at += 1 + given[at]
    return split


def firsts(*calls):
    """The first number answered to each call."""
    return [answer[0] for answer in play(*calls)]


def last(*calls):
    """What is answered to the last call."""
    return play(*calls)[-1]


def row_of(world):
    """The letters on their way, without their facts."""
    return [(x.kind, x.to, x.sender, x.number, x.whom) for x in world.row]


def told_of(world):
    """All that a world holds, to see whether a call has changed it."""
    nodes = [
        (n.runs, n.own, n.asked, n.clock, list(n.facts), list(n.since), asking_of(n), dict(n.for_others))
        for n in world.nodes
    ]
    facts = [list(x.facts) for x in world.row]
    return (world.wait, world.patience, nodes, row_of(world), facts, list(world.blamed))


def asking_of(node):
    if node.asking is None:
        return None
    return (node.asking.whom, node.asking.number, node.asking.since, node.asking.helped)
