"""What letters, node, sees and blames tell, number by number, and that they change nothing."""

import unittest

from tests.calls import (begin, blames, keep, last, letters, lose, node, play, probe, sees, start, stop, take, tick,
                         told_of)
from whoisthere.world import World

# All that may be told, in a world of three.
TOLD = (letters(), node(0), node(1), node(2), sees(0), sees(1), sees(2), blames())

# A story in which each sort of thing comes that can be told: see what stands beside it.
STORY = (
    begin(3, 1, 2),
    probe(0, 1),  # ask to 1
    tick(0),      # help to 2
    take(1),      # 2 asks 1 for 0
    tick(0),      # 0 blames 1
    probe(2, 1),
    keep(0),      # 1 answers 0
    tick(2),      # 2 asks 0 to help
    stop(1),
    take(4),      # 0 asks 1 for 2, and tells its suspicion
    tick(0),
    tick(0),      # 1 is gone for 0
    start(1),
    probe(1, 2),
    tick(2),      # 2 blames 1
    take(0),
)


class Letters(unittest.TestCase):
    def test_none(self):
        for nodes in (2, 5):
            self.assertEqual(last(begin(nodes, 1, 1), letters()), [0])

    def test_an_ask(self):
        self.assertEqual(last(begin(3, 1, 1), probe(0, 2), probe(0, 1), lose(0), letters()),
                         [1, 0, 1, 0, 2, 0, 0, 0, 0, 0, 0, 0])

    def test_a_here(self):
        self.assertEqual(last(begin(2, 1, 1), probe(1, 0), probe(1, 0), take(1), lose(0), letters()),
                         [1, 1, 1, 0, 2, 0, 0, 0, 0, 0])

    def test_a_help_tells_whom_to_ask(self):
        self.assertEqual(last(begin(3, 1, 1), probe(1, 2), tick(1), lose(0), letters()),
                         [1, 2, 0, 1, 1, 2, 0, 0, 0, 0, 0, 0])

    def test_whom_to_ask_is_not_told_in_what_comes_of_a_help(self):
        calls = (begin(3, 1, 1), probe(1, 2), tick(1), lose(0))
        self.assertEqual(last(*calls, take(0), letters()), [1, 0, 2, 0, 1, 0, 0, 0, 0, 0, 0, 0])
        self.assertEqual(last(*calls, take(0), take(0), letters()), [1, 1, 0, 2, 1, 0, 0, 0, 0, 0, 0, 0])
        self.assertEqual(last(*calls, take(0), take(0), take(0), letters()), [1, 1, 1, 0, 1, 0, 0, 0, 0, 0, 0, 0])

    def test_in_the_order_in_which_they_were_sent(self):
        got = last(begin(4, 1, 1), probe(3, 0), probe(1, 2), tick(3), take(1), letters())
        zeros = [0] * 8
        self.assertEqual(got, [4, 0, 0, 3, 1, 0, *zeros, 2, 1, 3, 1, 0, *zeros, 2, 2, 3, 1, 0, *zeros,
                               1, 1, 2, 1, 0, *zeros])

    def test_facts_of_each_node_number_and_sort(self):
        # Node 1 begins anew twice and says so to 0; 0 suspects 2; 0 asks 1.
        got = last(begin(3, 1, 9), stop(1), start(1), stop(1), start(1), probe(1, 0), take(0), lose(0),
                   probe(0, 2), tick(0), tick(0), lose(0), lose(0), probe(0, 1), letters())
        self.assertEqual(got, [1, 0, 1, 0, 2, 0, 0, 0, 2, 0, 0, 1])

    def test_facts_as_they_were_when_it_was_sent(self):
        got = play(begin(2, 1, 1), probe(0, 1), letters(), tick(0), tick(0), tick(0), probe(0, 1), letters())
        self.assertEqual(got[2], [1, 0, 1, 0, 1, 0, 0, 0, 0, 0])
        self.assertEqual(got[-1], [2, 0, 1, 0, 1, 0, 0, 0, 0, 0, 0, 1, 0, 2, 0, 0, 0, 0, 2])

    def test_a_hundred_and_no_more(self):
        filling = (probe(0, 1), tick(0)) * 25
        for more in ((), (probe(2, 1),), (probe(2, 1), probe(3, 1))):
            got = last(begin(5, 1, 20), *filling, *more, letters())
            self.assertEqual((got[0], len(got)), (100, 1 + 100 * 15))
        self.assertEqual(last(begin(5, 1, 20), *filling, lose(0), letters())[0], 99)


class OfANode(unittest.TestCase):
    def test_as_at_first(self):
        for nodes in (2, 3, 4, 5):
            for which in range(nodes):
                self.assertEqual(last(begin(nodes, 1, 1), node(which)), [1] + [0] * (5 + 3 * nodes))

    def test_no_such_node(self):
        for nodes in (2, 3, 4, 5):
            for which in range(nodes, 10):
                self.assertEqual(last(begin(nodes, 1, 1), node(which)), [-1])

    def test_a_stopped_node_is_told_too(self):
        self.assertEqual(last(begin(2, 1, 1), stop(1), node(1)), [0] * 12)

    def test_how_many_it_has_asked_and_its_clock(self):
        got = last(begin(2, 9, 1), tick(0), probe(0, 1), tick(0), probe(0, 1), tick(0), node(0))
        self.assertEqual(got, [1, 0, 2, 3, 0, 0, 0, 0, 0, 0, 1, 1, 2, 2, 0, 0])

    def test_its_asking_with_and_without_help(self):
        calls = (begin(3, 2, 9), tick(2), probe(2, 1), tick(2))
        self.assertEqual(last(*calls, node(2)), [1, 0, 1, 2, 0, 0, 0, 0, 0, 0, 0, 0, 0, 1, 1, 1, 1, 0, 0])
        self.assertEqual(last(*calls, tick(2), node(2)), [1, 0, 1, 3, 0, 0, 0, 0, 0, 0, 0, 0, 0, 1, 1, 1, 1, 1, 0])
        self.assertEqual(last(*calls, take(0), take(0), node(2)), [1, 0, 1, 2, 0, 0, 0, 0, 0, 0, 0, 0, 0, 0, 0])

    def test_facts_and_since_when(self):
        calls = (begin(3, 1, 2), probe(0, 2), tick(0), tick(0))
        self.assertEqual(last(*calls, node(0)), [1, 0, 1, 2, 0, 0, 0, 0, 0, 1, 0, 0, 2, 0, 0])
        self.assertEqual(last(*calls, tick(0), tick(0), node(0)), [1, 0, 1, 4, 0, 0, 0, 0, 0, 2, 0, 0, 4, 0, 0])

    def test_of_itself_since_when_it_said_so(self):
        got = last(begin(2, 1, 9), probe(0, 1), tick(0), tick(0), probe(0, 1), tick(1), tick(1), tick(1), take(1),
                   node(1))
        self.assertEqual(got, [1, 1, 0, 3, 0, 0, 1, 0, 0, 3, 0, 0])

    def test_those_whom_it_asks_for_others_in_order(self):
        # Node 1 asks 3 on its own account; then 2, 0 and 2 once more ask it to help.
        calls = (begin(4, 1, 9), probe(1, 3), probe(2, 3), tick(2), probe(0, 3), probe(0, 3), tick(0),
                 take(3), take(5), probe(2, 3), tick(2), take(10))
        ahead = [1, 0, 4, 0] + [0] * 12 + [1, 3, 1, 0, 0]
        self.assertEqual(last(*calls, node(1)), ahead + [3, 2, 2, 1, 3, 0, 2, 4, 2, 2])
        # The ask by 3 is answered, and its here told on: those ahead of it and behind it stay.
        got = play(*calls, take(7), take(10), node(1))
        self.assertEqual(got[-3:], [[1], [3], ahead + [2, 2, 2, 1, 4, 2, 2]])


class Sees(unittest.TestCase):
    def test_all_at_first_itself_too(self):
        for nodes in (2, 3, 4, 5):
            for which in range(nodes):
                self.assertEqual(last(begin(nodes, 1, 1), sees(which)), [nodes, *range(nodes)])

    def test_no_such_node(self):
        for nodes in (2, 3, 4, 5):
            for which in range(nodes, 10):
                self.assertEqual(last(begin(nodes, 1, 1), sees(which)), [-1])

    def test_who_is_suspected_is_seen_and_who_is_gone_is_not(self):
        for whom, left in ((0, [2, 1, 2]), (2, [2, 0, 1])):
            calls = (begin(3, 1, 1), probe(1, whom), tick(1), tick(1))
            self.assertEqual(last(*calls, sees(1)), [3, 0, 1, 2])
            self.assertEqual(play(*calls, tick(1), sees(0), sees(1), sees(2))[-3:], [[3, 0, 1, 2], left, [3, 0, 1, 2]])

    def test_itself_alone(self):
        gone = [call for whom in (0, 1, 3) for call in (probe(2, whom), tick(2), tick(2), tick(2))]
        self.assertEqual(last(begin(4, 1, 1), *gone, sees(2)), [1, 2])

    def test_by_the_facts_of_a_stopped_node_too(self):
        calls = (begin(3, 1, 1), probe(0, 1), tick(0), tick(0), tick(0), stop(0), stop(2))
        self.assertEqual(play(*calls, sees(0), sees(2))[-2:], [[2, 0, 2], [3, 0, 1, 2]])

    def test_seen_again_by_a_greater_number(self):
        calls = (begin(2, 1, 1), probe(0, 1), tick(0), tick(0), tick(0), probe(0, 1))
        self.assertEqual(play(*calls, sees(0), take(1), sees(0), take(1), sees(0))[6:],
                         [[1, 0], [1], [1, 0], [2], [2, 0, 1]])


class Blames(unittest.TestCase):
    def test_none(self):
        self.assertEqual(last(begin(5, 1, 1), blames()), [0])

    def test_just_at_the_tick(self):
        calls = (begin(3, 2, 1), probe(2, 1), tick(2), tick(2), tick(2))
        self.assertEqual(last(*calls, blames()), [0])
        self.assertEqual(last(*calls, tick(2), blames()), [1, 2, 1, 0])
        self.assertEqual(last(*calls, tick(2), tick(2), tick(2), blames()), [1, 2, 1, 0])

    def test_in_order_with_which_number(self):
        # Node 0 blames 1; node 2 blames 0; 1 says it's there, by 1, and is blamed with that.
        got = last(begin(3, 1, 9), probe(0, 1), tick(0), tick(0), probe(2, 0), tick(2), tick(2), probe(0, 1), take(4),
                   take(4), probe(0, 1), tick(0), tick(0), blames())
        self.assertEqual(got, [3, 0, 1, 0, 2, 0, 0, 0, 1, 1])

    def test_that_it_hears_of_a_suspicion_is_no_blame(self):
        # Node 1 hears from 0 that 2 is suspected.
        calls = (begin(3, 1, 9), probe(0, 2), tick(0), tick(0), probe(0, 1), take(2))
        self.assertEqual(play(*calls, node(1), blames())[-2:], [[1, 0, 0, 0, 0, 0, 0, 0, 0, 1, 0, 0, 0, 0, 0],
                                                                [1, 0, 2, 0]])

    def test_that_it_is_gone_is_no_blame(self):
        self.assertEqual(last(begin(2, 1, 1), probe(0, 1), *[tick(0)] * 5, blames()), [1, 0, 1, 0])

    def test_who_is_suspected_already_is_not_blamed_again(self):
        self.assertEqual(last(begin(2, 1, 9), *(probe(0, 1), tick(0), tick(0)) * 2, blames()), [1, 0, 1, 0])

    def test_a_blame_after_it_has_forgotten(self):
        blaming = (probe(0, 1), tick(0), tick(0))
        self.assertEqual(last(begin(2, 1, 9), *blaming, stop(0), start(0), *blaming, blames()), [2, 0, 1, 0, 0, 1, 0])

    def test_none_in_a_new_world(self):
        self.assertEqual(last(begin(2, 1, 9), probe(0, 1), tick(0), tick(0), begin(2, 1, 9), blames()), [0])


class ChangeNothing(unittest.TestCase):
    def test_told_twice_the_same(self):
        for count in range(1, len(STORY) + 1):
            got = play(*STORY[:count], *TOLD, *reversed(TOLD))[count:]
            self.assertEqual(got[len(TOLD):], got[:len(TOLD)][::-1])

    def test_the_story_goes_on_as_without(self):
        plain = play(*STORY, *TOLD)
        for told in TOLD + (node(3), sees(9)):
            calls = [call for part in STORY for call in (part, told)]
            got = play(*calls, *TOLD)
            self.assertEqual(got[:2 * len(STORY):2] + got[2 * len(STORY):], plain, told)

    def test_nothing_that_a_world_holds(self):
        world = World(3, 1, 2)
        world.probe(0, 1)
        world.tick(0)
        world.take(1)
        world.tick(0)
        world.stop_node(1)
        before = told_of(world)
        world.tell_letters()
        for which in (0, 1, 2, 3, 9):
            world.tell_node(which)
            world.tell_seen(which)
        world.tell_blames()
        self.assertEqual(told_of(world), before)

    def test_what_is_told_is_no_part_of_the_world(self):
        world = World(3, 1, 2)
        world.probe(0, 1)
        world.tick(0)
        before = told_of(world)
        for told in (world.tell_letters(), world.tell_node(0), world.tell_seen(0), world.tell_blames()):
            told.append(7)
            told[0] = 9
        self.assertEqual(told_of(world), before)


class Story(unittest.TestCase):
    def test_what_is_told_at_its_end(self):
        got = play(*STORY, *TOLD)
        self.assertEqual([answer[0] for answer in got[:len(STORY)]], [0, 1, 1, 4, 2, 2, 1, 1, 0, 4, 3, 4, 1, 1, 2, 1])
        self.assertEqual(got[len(STORY):], [
            [6,
             0, 1, 2, 1, 0, 0, 0, 0, 0, 0, 0,
             0, 1, 2, 2, 0, 0, 0, 0, 0, 0, 0,
             1, 0, 1, 1, 0, 0, 0, 0, 0, 0, 0,
             0, 1, 0, 2, 0, 0, 0, 0, 1, 0, 0,
             0, 2, 1, 1, 0, 0, 0, 1, 0, 0, 0,
             1, 0, 1, 1, 0, 0, 0, 1, 0, 0, 0],
            [1, 0, 2, 4, 0, 0, 0, 2, 0, 0, 0, 4, 0, 0, 1, 2, 2, 2],
            [1, 1, 1, 0, 0, 0, 1, 0, 0, 0, 0, 0, 0, 1, 2, 1, 0, 0, 0],
            [1, 0, 2, 2, 0, 0, 0, 1, 0, 0, 0, 2, 0, 0, 1, 1, 0, 1],
            [2, 0, 2],
            [3, 0, 1, 2],
            [3, 0, 1, 2],
            [2, 0, 1, 0, 2, 1, 0],
        ])
