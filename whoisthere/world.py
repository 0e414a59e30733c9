"""A world of nodes that ask one another whether they're there, and the calls on it."""

BEGIN = 0
PROBE = 1
TICK = 2
TAKE = 3
KEEP = 4
LOSE = 5
STOP = 6
START = 7
LETTERS = 8
NODE = 9
SEES = 10
BLAMES = 11

# How many numbers stand behind the number of each call.
COUNTS = (3, 2, 1, 1, 1, 1, 1, 1, 0, 1, 1, 0)

REFUSED = -1
IS_SO_ALREADY = -2
HAS_STOPPED = -3
NO_WORLD = -9

# Kinds of letters.
ASK = 0
HERE = 1
HELP = 2

# Sorts of facts; a greater one counts for more under the same number.
THERE = 0
SUSPECTED = 1
GONE = 2

# What came of a letter.
NO_USE = 0
ANSWERED = 1
ASKING_OVER = 2
TOLD_ON = 3
ANOTHER_ASKED = 4
BUT_HEARD = 5

ROOM = 100
NOT_TOLD = 0


def counts_for_more(fact, other):
    if fact[0] != other[0]:
        return fact[0] > other[0]
    return fact[1] > other[1]


def one_behind_another(parts):
    numbers = []
    for part in parts:
        numbers.extend(part)
    return numbers


class Letter:
    def __init__(self, kind, to, sender, number, whom, facts):
        self.kind = kind
        self.to = to
        self.sender = sender
        self.number = number
        self.whom = whom
        # A copy: the letter tells the facts as they were when it was sent.
        self.facts = list(facts)

    def numbers(self):
        return [self.kind, self.to, self.sender, self.number, self.whom] + one_behind_another(self.facts)


class Asking:
    def __init__(self, whom, number, since):
        self.whom = whom
        self.number = number
        self.since = since
        self.helped = False

    def numbers(self):
        return [self.whom, self.number, self.since, 1 if self.helped else 0]


class Node:
    """One node: a fact is a pair of a number and a sort, one for each node of the world."""

    def __init__(self, me, count):
        self.me = me
        self.runs = True
        self.own = 0
        self.asked = 0
        self.forget(count)

    def forget(self, count):
        """What's in memory is as at first; what's on its disk stays."""
        self.clock = 0
        self.facts = [(0, THERE) for k in range(count)]
        self.since = [0 for k in range(count)]
        self.asking = None
        # By which number it asks: for whom, and by which number there. A number comes
        # but once, since it only grows, so a dict keeps them all and their order.
        self.for_others = {}

    def begin_anew(self):
        self.forget(len(self.facts))
        self.runs = True
        self.own += 1
        self.learn(self.me, self.own, THERE)

    def has_passed(self, then, much):
        return then + much <= self.clock

    def learn(self, whom, number, how):
        self.facts[whom] = (number, how)
        self.since[whom] = self.clock

    def hear(self, facts):
        for whom in range(len(facts)):
            fact = facts[whom]
            if whom == self.me:
                self.hear_of_itself(fact)
            elif counts_for_more(fact, self.facts[whom]):
                self.learn(whom, fact[0], fact[1])

    def hear_of_itself(self, fact):
        if fact[1] != THERE and fact[0] >= self.own:
            # A greater number, so that this counts for more than what was said of it.
            self.own = fact[0] + 1
            self.learn(self.me, self.own, THERE)

    def give_up(self, patience):
        for whom in range(len(self.facts)):
            fact = self.facts[whom]
            if fact[1] == SUSPECTED and self.has_passed(self.since[whom], patience):
                self.learn(whom, fact[0], GONE)

    def numbers(self):
        told = [1 if self.runs else 0, self.own, self.asked, self.clock]
        told.extend(one_behind_another(self.facts))
        told.extend(self.since)
        if self.asking is None:
            told.append(0)
        else:
            told.append(1)
            told.extend(self.asking.numbers())
        told.append(len(self.for_others))
        for number in self.for_others:
            errand = self.for_others[number]
            told.extend([number, errand[0], errand[1]])
        return told

    def seen(self):
        return [whom for whom in range(len(self.facts)) if self.facts[whom][1] != GONE]


class World:
    def __init__(self, count, wait, patience):
        self.wait = wait
        self.patience = patience
        self.nodes = [Node(k, count) for k in range(count)]
        self.row = []
        self.blamed = []

    def has_node(self, k):
        return 0 <= k < len(self.nodes)

    def has_letter(self, k):
        return 0 <= k < len(self.row)

    def send(self, node, kind, to, number, whom):
        if len(self.row) < ROOM:
            self.row.append(Letter(kind, to, node.me, number, whom, node.facts))

    def probe(self, k, whom):
        if not self.has_node(k) or not self.has_node(whom) or k == whom:
            return REFUSED
        node = self.nodes[k]
        if not node.runs:
            return HAS_STOPPED
        node.asked += 1
        node.asking = Asking(whom, node.asked, node.clock)
        self.send(node, ASK, whom, node.asked, NOT_TOLD)
        return node.asked

    def tick(self, k):
        if not self.has_node(k):
            return REFUSED
        node = self.nodes[k]
        if not node.runs:
            return HAS_STOPPED
        node.clock += 1
        node.give_up(self.patience)
        if node.asking is not None:
            self.wait_on(node)
        return node.clock

    def wait_on(self, node):
        asking = node.asking
        if not asking.helped and node.has_passed(asking.since, self.wait):
            asking.helped = True
            self.call_for_help(node, asking)
        elif node.has_passed(asking.since, 2 * self.wait):
            node.asking = None
            self.blame(node, asking.whom)

    def call_for_help(self, node, asking):
        for k in range(len(self.nodes)):
            if k != node.me and k != asking.whom:
                self.send(node, HELP, k, asking.number, asking.whom)

    def blame(self, node, whom):
        fact = node.facts[whom]
        if fact[1] == THERE:
            node.learn(whom, fact[0], SUSPECTED)
            self.blamed.append((node.me, whom, fact[0]))

    def take(self, k):
        if not self.has_letter(k):
            return REFUSED
        # Out of the row first: what's sent in answer may need its room.
        letter = self.row.pop(k)
        return self.hand_over(letter)

    def keep(self, k):
        if not self.has_letter(k):
            return REFUSED
        return self.hand_over(self.row[k])

    def lose(self, k):
        if not self.has_letter(k):
            return REFUSED
        self.row.pop(k)
        return 0

    def hand_over(self, letter):
        node = self.nodes[letter.to]
        if not node.runs:
            return NO_USE
        node.hear(letter.facts)
        if letter.kind == ASK:
            self.send(node, HERE, letter.sender, letter.number, NOT_TOLD)
            return ANSWERED
        if letter.kind == HERE:
            return self.get_here(node, letter.number)
        return self.ask_for_another(node, letter)

    def get_here(self, node, number):
        errand = node.for_others.pop(number, None)
        if errand is not None:
            self.send(node, HERE, errand[0], errand[1], NOT_TOLD)
            return TOLD_ON
        if node.asking is not None and node.asking.number == number:
            node.asking = None
            return ASKING_OVER
        return BUT_HEARD

    def ask_for_another(self, node, letter):
        node.asked += 1
        node.for_others[node.asked] = (letter.sender, letter.number)
        # The number of this very ask, by which the here that comes back is known again.
        self.send(node, ASK, letter.whom, node.asked, NOT_TOLD)
        return ANOTHER_ASKED

    def stop_node(self, k):
        if not self.has_node(k):
            return REFUSED
        node = self.nodes[k]
        if not node.runs:
            return IS_SO_ALREADY
        # What it had in memory is told on as it was, until it begins anew.
        node.runs = False
        return 0

    def start_node(self, k):
        if not self.has_node(k):
            return REFUSED
        node = self.nodes[k]
        if node.runs:
            return IS_SO_ALREADY
        node.begin_anew()
        return node.own

    def tell_letters(self):
        return [len(self.row)] + one_behind_another([letter.numbers() for letter in self.row])

    def tell_node(self, k):
        if not self.has_node(k):
            return [REFUSED]
        return self.nodes[k].numbers()

    def tell_seen(self, k):
        if not self.has_node(k):
            return [REFUSED]
        seen = self.nodes[k].seen()
        return [len(seen)] + seen

    def tell_blames(self):
        return [len(self.blamed)] + one_behind_another(self.blamed)


def change(world, call, told):
    """The one number that is answered to a call which changes the world."""
    if call == PROBE:
        return world.probe(told[0], told[1])
    if call == TICK:
        return world.tick(told[0])
    if call == TAKE:
        return world.take(told[0])
    if call == KEEP:
        return world.keep(told[0])
    if call == LOSE:
        return world.lose(told[0])
    if call == STOP:
        return world.stop_node(told[0])
    return world.start_node(told[0])


def tell(world, call, told):
    """The numbers that are answered to a call which changes nothing."""
    if call == LETTERS:
        return world.tell_letters()
    if call == NODE:
        return world.tell_node(told[0])
    if call == SEES:
        return world.tell_seen(told[0])
    return world.tell_blames()


class Line:
    """The calls of one list; there's no world until begin makes one."""

    def __init__(self):
        self.world = None

    def begin(self, count, wait, patience):
        if not 2 <= count <= 5 or not 1 <= wait <= 20 or not 1 <= patience <= 20:
            return REFUSED
        self.world = World(count, wait, patience)
        return 0

    def answer(self, call, told):
        """What is answered to one call: its numbers, the first one first."""
        if call == BEGIN:
            return [self.begin(told[0], told[1], told[2])]
        if self.world is None:
            return [NO_WORLD]
        if call < LETTERS:
            return [change(self.world, call, told)]
        return tell(self.world, call, told)


def answers(calls):
    """For each call, in order: how many numbers are answered, then these."""
    line = Line()
    given = []
    at = 0
    while at < len(calls):
        call = calls[at]
        behind = at + 1 + COUNTS[call]
        answer = line.answer(call, calls[at + 1:behind])
        given.append(len(answer))
        given.extend(answer)
        at = behind
    return given
