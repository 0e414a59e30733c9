"""What may come of a letter, by take and by keep."""

import unittest

from tests.calls import asking_of, begin, firsts, keep, last, lose, probe, row_of, take, tick, told_of
from whoisthere.world import World

# Node 0 asks 1, and asks 2 and 3 to help: the row is ask to 1, help to 2, help to 3.
HELPED = (begin(4, 1, 5), probe(0, 1), tick(0))


def helped_world():
    world = World(4, 1, 5)
    world.probe(0, 1)
    world.tick(0)
    return world


class ByTake(unittest.TestCase):
    def test_ask_is_answered(self):
        self.assertEqual(last(begin(2, 1, 1), probe(0, 1), take(0)), [1])

    def test_here_ends_the_asking(self):
        self.assertEqual(firsts(begin(2, 1, 1), probe(0, 1), take(0), take(0), take(0)), [0, 1, 1, 2, -1])

    def test_help_asks_another_one_and_here_is_told_on(self):
        got = firsts(*HELPED, lose(0), take(0), take(1), take(1), take(1), take(0))
        # help to 2; then its ask, the here to 2, the here to 0; then help to 3.
        self.assertEqual(got[3:], [0, 4, 1, 3, 2, 4])

    def test_here_that_nobody_waits_for_was_but_heard(self):
        got = firsts(begin(2, 1, 1), probe(0, 1), probe(0, 1), take(0), take(1), take(0), take(0))
        self.assertEqual(got, [0, 1, 2, 1, 5, 1, 2])

    def test_letter_to_a_stopped_node_is_of_no_use(self):
        world = helped_world()
        for node in world.nodes:
            node.runs = False
        nodes = told_of(world)[2]
        self.assertEqual([world.take(0), world.take(1), world.take(0), world.take(0)], [0, 0, 0, -1])
        self.assertEqual(told_of(world)[2], nodes)


class ByKeep(unittest.TestCase):
    def test_ask_comes_twice_and_is_answered_twice(self):
        got = firsts(begin(2, 1, 1), probe(0, 1), keep(0), keep(0), take(0), take(0), take(0), take(0), take(0))
        self.assertEqual(got, [0, 1, 1, 1, 1, 2, 5, 5, -1])

    def test_here_comes_twice_and_is_but_heard_then(self):
        got = firsts(begin(2, 1, 1), probe(0, 1), take(0), keep(0), keep(0), take(0), keep(0))
        self.assertEqual(got, [0, 1, 1, 2, 5, 5, -1])

    def test_help_comes_twice_and_asks_twice_by_numbers_of_its_own(self):
        world = helped_world()
        self.assertEqual([world.keep(1), world.keep(1)], [4, 4])
        self.assertEqual(row_of(world)[3:], [(0, 1, 2, 1, 0), (0, 1, 2, 2, 0)])
        self.assertEqual(list(world.nodes[2].for_others.items()), [(1, (0, 1)), (2, (0, 1))])

    def test_here_for_others_comes_twice_and_is_told_on_once(self):
        got = firsts(*HELPED, take(1), take(2), keep(2), keep(2), keep(3), keep(3), keep(2))
        self.assertEqual(got[3:], [4, 1, 3, 5, 2, 5, 5])

    def test_letter_to_a_stopped_node_lies_on(self):
        world = helped_world()
        world.nodes[2].runs = False
        before = told_of(world)
        self.assertEqual([world.keep(1), world.keep(1)], [0, 0])
        self.assertEqual(told_of(world), before)


class WhatIsSent(unittest.TestCase):
    def test_here_bears_the_number_of_the_ask(self):
        world = World(3, 1, 1)
        for _ in range(4):
            world.probe(2, 1)
        world.take(2)
        self.assertEqual(row_of(world)[-1], (1, 2, 1, 3, 0))

    def test_help_is_asked_for_by_the_number_of_ones_own(self):
        world = World(3, 1, 9)
        for _ in range(2):
            world.probe(2, 0)
        for _ in range(4):
            world.probe(0, 1)
        world.tick(0)
        self.assertEqual(row_of(world)[-1], (2, 2, 0, 4, 1))
        self.assertEqual(world.take(6), 4)
        self.assertEqual(world.nodes[2].asked, 3)
        self.assertEqual(world.nodes[2].for_others, {3: (0, 4)})
        self.assertEqual(row_of(world)[-1], (0, 1, 2, 3, 0))
        self.assertEqual(world.take(6), 1)
        self.assertEqual(row_of(world)[-1], (1, 2, 1, 3, 0))
        self.assertEqual(world.take(6), 3)
        self.assertEqual(row_of(world)[-1], (1, 0, 2, 4, 0))
        self.assertEqual(world.nodes[2].for_others, {})
        self.assertEqual(world.take(6), 2)
        self.assertIsNone(world.nodes[0].asking)

    def test_helping_leaves_the_asking_of_ones_own(self):
        world = helped_world()
        world.probe(2, 3)
        self.assertEqual(world.take(1), 4)
        self.assertEqual(asking_of(world.nodes[2]), (3, 1, 0, False))
        self.assertEqual(list(world.nodes[2].for_others), [2])

    def test_here_told_on_leaves_the_asking_of_ones_own(self):
        world = helped_world()
        world.take(1)
        world.probe(2, 3)
        world.take(2)
        # Row: ask to 1, help to 3, ask of 2 to 3, here to 2.
        self.assertEqual(world.take(3), 3)
        self.assertEqual(asking_of(world.nodes[2]), (3, 2, 0, False))

    def test_here_of_an_earlier_asking_leaves_the_later_one(self):
        world = World(3, 5, 5)
        world.probe(0, 1)
        world.probe(0, 2)
        world.take(0)
        self.assertEqual(world.take(1), 5)
        self.assertEqual(asking_of(world.nodes[0]), (2, 2, 0, False))

    def test_those_asked_for_others_are_known_by_number(self):
        world = World(4, 1, 9)
        world.probe(0, 3)
        world.tick(0)
        world.probe(1, 3)
        world.tick(1)
        # Both ask node 2 to help: letters 2 (of 0) and 5 (of 1).
        self.assertEqual(row_of(world)[2][:3] + row_of(world)[5][:3], (2, 2, 0, 2, 2, 1))
        self.assertEqual([world.keep(2), world.keep(5)], [4, 4])
        self.assertEqual(list(world.nodes[2].for_others.items()), [(1, (0, 1)), (2, (1, 1))])
        self.assertEqual(world.take(7), 1)
        self.assertEqual(world.take(7), 3)
        self.assertEqual(row_of(world)[-1], (1, 1, 2, 1, 0))
        self.assertEqual(list(world.nodes[2].for_others.items()), [(1, (0, 1))])

    def test_asking_one_more_to_help_counts_for_the_next_probe(self):
        self.assertEqual(firsts(*HELPED, take(1), probe(2, 0), probe(3, 0))[3:], [4, 2, 1])
