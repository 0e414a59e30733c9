"""Lists of calls over the whole program, held against a second telling of the document."""

import random
import unittest

from tests.calls import (begin, blames, firsts, keep, last, letters, lose, node, play, probe, sees, start, stop, take,
                         tick)
from whoisthere.world import answers


class Told:
    """The document once more, word by word, on dicts alone; it shares no code with the program."""

    def __init__(self):
        self.on = False

    def call(self, call):
        if call[0] == 0:
            return self.begin(*call[1:])
        if not self.on:
            return [-9]
        if call[0] in (8, 11):
            return self.letters() if call[0] == 8 else self.blames()
        if call[0] in (3, 4, 5):
            return [-1] if call[1] >= len(self.net) else [self.with_letter(call[0], call[1])]
        if any(which >= self.nodes for which in call[1:]) or call[0] == 1 and call[1] == call[2]:
            return [-1]
        return self.with_node(call)

    def begin(self, nodes, wait, patience):
        if nodes not in range(2, 6) or wait not in range(1, 21) or patience not in range(1, 21):
            return [-1]
        self.on, self.nodes, self.wait, self.patience = True, nodes, wait, patience
        self.disk = [{"own": 0, "asked": 0} for _ in range(nodes)]
        self.memory = [self.at_first() for _ in range(nodes)]
        self.running = [True] * nodes
        self.net, self.blaming = [], []
        return [0]

    def at_first(self):
        return {"clock": 0, "number": [0] * self.nodes, "sort": [0] * self.nodes, "since": [0] * self.nodes,
                "asking": None, "others": []}

    def with_node(self, call):
        kind, i = call[0], call[1]
        if kind in (1, 2) and not self.running[i]:
            return [-3]
        if kind in (6, 7) and self.running[i] == (kind == 7):
            return [-2]
        if kind == 1:
            return [self.asks(i, call[2])]
        if kind == 2:
            return [self.ticks(i)]
        if kind == 6:
            self.running[i] = False
            return [0]
        if kind == 7:
            return [self.begins_anew(i)]
        return self.node(i) if kind == 9 else self.sees(i)

    def send(self, kind, to, sender, number, whom=0):
        if len(self.net) == 100:
            return
        m = self.memory[sender]
        facts = [x for pair in zip(m["number"], m["sort"]) for x in pair]
        self.net.append((kind, to, sender, number, whom, *facts))

    def learns(self, i, of, number, sort):
        m = self.memory[i]
        m["number"][of], m["sort"][of], m["since"][of] = number, sort, m["clock"]

    def one_more(self, i):
        self.disk[i]["asked"] += 1
        return self.disk[i]["asked"]

    def asks(self, i, whom):
        number = self.one_more(i)
        self.memory[i]["asking"] = [whom, number, self.memory[i]["clock"], 0]
        self.send(0, whom, i, number)
        return number

    def ticks(self, i):
        m = self.memory[i]
        m["clock"] += 1
        now = m["clock"]
        for k in range(self.nodes):
            if m["sort"][k] == 1 and m["since"][k] + self.patience <= now:
                self.learns(i, k, m["number"][k], 2)
        if m["asking"] is None:
            return now
        whom, number, began, helped = m["asking"]
        if helped == 0 and began + self.wait <= now:
            m["asking"][3] = 1
            for k in sorted(set(range(self.nodes)) - {i, whom}):
                self.send(2, k, i, number, whom)
        elif began + 2 * self.wait <= now:
            m["asking"] = None
            if m["sort"][whom] == 0:
                self.learns(i, whom, m["number"][whom], 1)
                self.blaming += [i, whom, m["number"][whom]]
        return now

    def begins_anew(self, i):
        self.disk[i]["own"] += 1
        self.memory[i] = self.at_first()
        self.memory[i]["number"][i] = self.disk[i]["own"]
        self.running[i] = True
        return self.disk[i]["own"]

    def with_letter(self, kind, k):
        letter = self.net[k]
        if kind != 4:
            self.net = self.net[:k] + self.net[k + 1:]
        return 0 if kind == 5 else self.hand_over(*letter[:5], letter[5:])

    def hand_over(self, kind, i, x, number, whom, facts):
        if not self.running[i]:
            return 0
        m = self.memory[i]
        for k in range(self.nodes):
            fact = (facts[2 * k], facts[2 * k + 1])
            if k != i and fact > (m["number"][k], m["sort"][k]):
                self.learns(i, k, *fact)
            if k == i and fact[1] > 0 and fact[0] >= self.disk[i]["own"]:
                self.disk[i]["own"] = fact[0] + 1
                self.learns(i, i, fact[0] + 1, 0)
        if kind == 0:
            self.send(1, x, i, number)
            return 1
        if kind == 2:
            mine = self.one_more(i)
            m["others"].append((mine, x, number))
            self.send(0, whom, i, mine)
            return 4
        for other in m["others"]:
            if other[0] == number:
                m["others"].remove(other)
                self.send(1, other[1], i, other[2])
                return 3
        if m["asking"] is not None and m["asking"][1] == number:
            m["asking"] = None
            return 2
        return 5

    def letters(self):
        return [len(self.net)] + [x for letter in self.net for x in letter]

    def node(self, i):
        m = self.memory[i]
        facts = [x for pair in zip(m["number"], m["sort"]) for x in pair]
        asking = [0] if m["asking"] is None else [1] + m["asking"]
        others = [len(m["others"])] + [x for other in m["others"] for x in other]
        return [int(self.running[i]), self.disk[i]["own"], self.disk[i]["asked"], m["clock"], *facts, *m["since"],
                *asking, *others]

    def sees(self, i):
        left = [k for k in range(self.nodes) if self.memory[i]["sort"][k] < 2]
        return [len(left)] + left

    def blames(self):
        return [len(self.blaming) // 3] + self.blaming


ALL_TWELVE = (begin, probe, tick, take, keep, lose, stop, start, letters, node, sees, blames)
# How often each of them comes; in a crowded list there's no new world, and letters hardly leave the row.
USUAL = (1, 14, 22, 22, 8, 3, 4, 5, 4, 10, 4, 3)
CROWDED = (0, 20, 30, 6, 20, 2, 1, 1, 10, 4, 2, 2)


def numbers_for(dice, made, told):
    """What is handed over with a call: mostly what there is, at times what there isn't."""
    wild = dice.random() < 0.05
    nodes = told.nodes if told.on else 3
    if made is begin:
        if wild or dice.random() < 0.2:
            return [dice.randrange(10), dice.randrange(100), dice.randrange(100)]
        return [dice.randint(2, 5), dice.choice((1, 1, 2, 3, 20)), dice.choice((1, 2, 3, 20))]
    if made in (letters, blames):
        return []
    if made in (take, keep, lose):
        there = len(told.net) if told.on else 0
        return [dice.randrange(201) if wild else dice.choice((dice.randrange(there + 1), max(0, there - 1)))]
    which = [dice.randrange(10 if wild else nodes)]
    if made is probe:
        which.append(dice.randrange(10 if wild else nodes))
    return which


def opening_of(dice, crowded):
    """All twelve calls, mostly behind a begin; or a row that is nearly full, and then the other eleven."""
    if not crowded:
        each = dice.sample(ALL_TWELVE, 12)
        return [begin] + each if dice.random() < 0.9 else each
    filling = [begin(5, 1, 20)] + [probe(0, 1), tick(0)] * dice.randint(22, 26)
    return filling + dice.sample(ALL_TWELVE[1:], 11)


def made_up(seed):
    """A list of up to 100 calls in which all twelve come, and what the second telling answers."""
    dice = random.Random(seed)
    crowded = seed % 8 == 0
    opening = opening_of(dice, crowded)
    calls, given, told = [], [], Told()
    for at in range(100 if crowded else dice.randint(20, 100)):
        made = opening[at] if at < len(opening) else dice.choices(ALL_TWELVE, CROWDED if crowded else USUAL)[0]
        calls.append(made if isinstance(made, list) else made(*numbers_for(dice, made, told)))
        given.append(told.call(calls[-1]))
    return calls, given


class AgainstTheSecondTelling(unittest.TestCase):
    COUNT = 1500

    @classmethod
    def setUpClass(cls):
        cls.lists = [made_up(seed) for seed in range(cls.COUNT)]

    def test_the_same_answers(self):
        for seed, (calls, given) in enumerate(self.lists):
            self.assertEqual(play(*calls), given, seed)

    def test_all_twelve_calls_come_in_each(self):
        for calls, given in self.lists:
            self.assertEqual({call[0] for call in calls}, set(range(12)))
            self.assertLessEqual(len(calls), 100)
            self.assertLessEqual(sum(len(call) for call in calls), 400)

    def test_each_answer_comes_somewhere(self):
        seen = {(call[0], answer[0]) for calls, given in self.lists for call, answer in zip(calls, given)}
        wanted = [(call, -9) for call in range(1, 12)]
        wanted += [(call, -1) for call in (0, 1, 2, 3, 4, 5, 6, 7, 9, 10)]
        wanted += [(1, -3), (2, -3), (6, -2), (7, -2), (0, 0), (5, 0), (6, 0), (7, 1), (7, 2)]
        wanted += [(call, came) for call in (3, 4) for came in range(6)]
        wanted += [(8, 0), (8, 99), (8, 100), (9, 0), (9, 1), (10, 1), (10, 5), (11, 0), (11, 1), (11, 3)]
        self.assertEqual([pair for pair in wanted if pair not in seen], [])
        refusals = {pair for pair in seen if pair[1] < 0}
        self.assertEqual(refusals - set(wanted), set())

    def test_no_number_but_a_refusal_is_below_nought_and_a_refusal_stands_alone(self):
        for calls, given in self.lists[:300]:
            for answer in play(*calls):
                self.assertTrue(min(answer) >= 0 or len(answer) == 1, answer)

    def test_whole_numbers_alone(self):
        for calls, given in self.lists[:300]:
            got = answers([number for call in calls for number in call])
            self.assertEqual({type(number) for number in got}, {int})

    def test_what_is_handed_in_is_not_changed_and_nothing_is_kept(self):
        for calls, given in self.lists[:300]:
            handed = [number for call in calls for number in call]
            first = answers(handed)
            self.assertEqual(handed, [number for call in calls for number in call])
            self.assertEqual(answers(handed), first)

    def test_a_refusal_changes_nothing(self):
        for calls, given in self.lists[:300]:
            kept = [(call, answer) for call, answer in zip(calls, given) if answer[0] >= 0]
            self.assertEqual(play(*[call for call, answer in kept]), [answer for call, answer in kept])

    def test_what_only_tells_changes_nothing(self):
        for calls, given in self.lists[:300]:
            kept = [(call, answer) for call, answer in zip(calls, given) if call[0] < 8]
            self.assertEqual(play(*[call for call, answer in kept]), [answer for call, answer in kept])


class AHundredCalls(unittest.TestCase):
    def test_a_node_that_stops_and_starts_by_turns(self):
        got = firsts(begin(2, 1, 1), *(stop(1), start(1), node(1)) * 33)
        self.assertEqual(got, [0] + [number for k in range(1, 34) for number in (0, k, 1)])
        self.assertEqual(last(begin(2, 1, 1), *(stop(1), start(1), node(1)) * 33),
                         [1, 33, 0, 0, 0, 0, 33, 0, 0, 0, 0, 0])

    def test_a_full_row_told_over_and_over(self):
        got = play(begin(5, 1, 20), *(probe(0, 1), tick(0)) * 25, *[letters()] * 49)
        self.assertEqual(len(got), 100)
        self.assertEqual([answer[0] for answer in got[51:]], [100] * 49)
        self.assertEqual({len(answer) for answer in got[51:]}, {1501})

    def test_without_a_world(self):
        calls = [made(*[0] * numbers) for made, numbers in zip(ALL_TWELVE[1:], (2, 1, 1, 1, 1, 1, 1, 0, 1, 1, 0))]
        self.assertEqual(play(*calls * 9), [[-9]] * 99)

    def test_wrongly_suspected_and_there_again_for_all(self):
        """Node 1 can't be reached by 0, is blamed, stops, begins anew, is gone for 0, and is seen again."""
        got = play(
            begin(3, 2, 3), probe(0, 1), lose(0), tick(0), letters(), tick(0), letters(), take(0), letters(), lose(0),
            tick(0), blames(), tick(0), blames(), node(0), sees(0), stop(1), probe(1, 0), tick(1), probe(0, 1),
            keep(0), node(1), start(1), node(1), keep(0), node(1), letters(), lose(0), tick(0), tick(0), tick(0),
            sees(0), take(0), node(0), sees(0), probe(0, 2), letters(), take(1), node(2), take(1), blames())
        self.assertEqual(got, [
            [0], [1], [0], [1], [0], [2], [1, 2, 2, 0, 1, 1, 0, 0, 0, 0, 0, 0], [4],
            [1, 0, 1, 2, 1, 0, 0, 0, 0, 0, 0, 0], [0],
            [3], [0], [4], [1, 0, 1, 0], [1, 0, 1, 4, 0, 0, 0, 1, 0, 0, 0, 4, 0, 0, 0], [3, 0, 1, 2],
            # Stopped: refused, and the ask is of no use.
            [0], [-3], [-3], [2], [0], [0] * 15,
            # Anew by 1: that it's suspected, by 0, is below its own number, and it answers.
            [1], [1, 1, 0, 0, 0, 0, 1, 0, 0, 0, 0, 0, 0, 0, 0], [1],
            [1, 1, 0, 0, 0, 0, 1, 0, 0, 0, 0, 0, 0, 0, 0],
            [2, 0, 1, 0, 2, 0, 0, 0, 0, 1, 0, 0, 1, 0, 1, 2, 0, 0, 0, 1, 0, 0, 0], [0],
            # Gone for 0 at 7, until the here comes that tells the greater number.
            [5], [6], [7], [2, 0, 2], [2],
            [1, 0, 2, 7, 0, 0, 1, 0, 0, 0, 0, 7, 0, 0, 0], [3, 0, 1, 2],
            [3], [2, 2, 2, 0, 2, 1, 0, 0, 0, 1, 0, 0, 0, 2, 0, 3, 0, 0, 0, 1, 0, 0, 0], [1],
            [1, 0, 1, 0, 0, 0, 1, 0, 0, 0, 0, 0, 0, 0, 1, 1, 0, 1], [2], [1, 0, 1, 0],
        ])
