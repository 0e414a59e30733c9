"""The clock: wait passed once and twice, patience passed."""

import unittest

from tests.calls import asking_of, begin, firsts, last, lose, play, probe, row_of, take, tick
from whoisthere.world import World


def ticks(world, node, count):
    for _ in range(count):
        world.tick(node)


class WaitPassedOnce(unittest.TestCase):
    def test_help_just_before_at_and_just_behind(self):
        for wait in (1, 2, 7, 20):
            start = [begin(3, wait, 20), probe(0, 1)]
            self.assertEqual(last(*start, *[tick(0)] * (wait - 1), take(1)), [-1], wait)
            self.assertEqual(last(*start, *[tick(0)] * wait, take(1)), [4], wait)
            # No second help at the next tick.
            self.assertEqual(last(*start, *[tick(0)] * (wait + 1), take(2)), [-1], wait)

    def test_help_goes_in_order_to_all_but_itself_and_the_one_asked(self):
        for node, whom, others in ((0, 1, (2, 3, 4)), (4, 0, (1, 2, 3)), (2, 3, (0, 1, 4)), (3, 2, (0, 1, 4))):
            world = World(5, 1, 1)
            world.probe(node, whom)
            world.tick(node)
            self.assertEqual(row_of(world)[1:], [(2, k, node, 1, whom) for k in others])
            self.assertEqual(asking_of(world.nodes[node]), (whom, 1, 0, True))

    def test_with_two_nodes_nobody_is_left_to_help(self):
        world = World(2, 1, 5)
        world.probe(0, 1)
        world.tick(0)
        self.assertEqual(row_of(world), [(0, 1, 0, 1, 0)])
        self.assertEqual(asking_of(world.nodes[0]), (1, 1, 0, True))

    def test_wait_counts_from_when_the_asking_began(self):
        world = World(3, 3, 9)
        ticks(world, 0, 4)
        world.probe(0, 1)
        ticks(world, 0, 2)
        self.assertEqual(len(world.row), 1)
        world.tick(0)
        self.assertEqual(len(world.row), 2)
        self.assertEqual(asking_of(world.nodes[0]), (1, 1, 4, True))

    def test_the_clock_of_another_does_not_count(self):
        world = World(3, 1, 1)
        world.probe(0, 1)
        ticks(world, 1, 5)
        ticks(world, 2, 5)
        self.assertEqual(len(world.row), 1)
        self.assertEqual(asking_of(world.nodes[0]), (1, 1, 0, False))

    def test_a_new_asking_waits_anew(self):
        got = play(begin(3, 2, 9), probe(0, 1), tick(0), probe(0, 1), tick(0), take(2), tick(0), take(2))
        self.assertEqual(got[-3:], [[-1], [3], [4]])

    def test_answered_in_time_nobody_is_asked_to_help(self):
        self.assertEqual(firsts(begin(3, 1, 1), probe(0, 1), take(0), take(0), tick(0), take(0))[-2:], [1, -1])


class WaitPassedTwice(unittest.TestCase):
    def test_the_asking_is_over_at_that_tick(self):
        for wait in (1, 2, 7, 20):
            # A here that comes ahead of it ends the asking, one behind it is but heard.
            for count, came in ((2 * wait - 1, 2), (2 * wait, 5), (2 * wait + 1, 5)):
                got = last(begin(2, wait, 20), probe(0, 1), take(0), *[tick(0)] * count, take(0))
                self.assertEqual(got, [came], (wait, count))

    def test_suspicion_just_before_at_and_just_behind(self):
        for wait in (1, 3, 20):
            world = World(3, wait, 20)
            world.probe(0, 2)
            ticks(world, 0, 2 * wait - 1)
            self.assertEqual(world.nodes[0].facts, [(0, 0), (0, 0), (0, 0)])
            self.assertEqual(asking_of(world.nodes[0]), (2, 1, 0, True))
            self.assertEqual(world.blamed, [])
            world.tick(0)
            self.assertEqual(world.nodes[0].facts, [(0, 0), (0, 0), (0, 1)])
            self.assertEqual(world.nodes[0].since, [0, 0, 2 * wait])
            self.assertIsNone(world.nodes[0].asking)
            self.assertEqual(world.blamed, [(0, 2, 0)])
            world.tick(0)
            self.assertEqual(world.nodes[0].since, [0, 0, 2 * wait])
            self.assertEqual(world.blamed, [(0, 2, 0)])

    def test_suspicion_keeps_the_number_of_the_fact(self):
        world = World(2, 1, 5)
        world.nodes[1].learn(0, 4, 0)
        world.probe(1, 0)
        ticks(world, 1, 2)
        self.assertEqual(world.nodes[1].facts[0], (4, 1))
        self.assertEqual(world.blamed, [(1, 0, 4)])

    def test_who_is_not_there_is_not_blamed(self):
        for sort in (1, 2):
            world = World(2, 1, 20)
            world.nodes[0].learn(1, 3, sort)
            world.probe(0, 1)
            ticks(world, 0, 2)
            self.assertIsNone(world.nodes[0].asking)
            self.assertEqual(world.nodes[0].facts[1], (3, sort))
            self.assertEqual(world.nodes[0].since[1], 0)
            self.assertEqual(world.blamed, [])

    def test_gone_is_learned_ahead_of_the_asking(self):
        world = World(3, 1, 2)
        world.nodes[0].learn(1, 0, 1)
        world.probe(0, 1)
        ticks(world, 0, 2)
        self.assertEqual(world.nodes[0].facts[1], (0, 2))
        self.assertEqual(world.blamed, [])

    def test_help_tells_what_the_same_tick_has_learned(self):
        world = World(3, 1, 1)
        world.nodes[0].learn(1, 0, 1)
        world.probe(0, 1)
        world.tick(0)
        self.assertEqual([letter.facts for letter in world.row], [[(0, 0), (0, 1), (0, 0)], [(0, 0), (0, 2), (0, 0)]])

    def test_nobody_is_told_of_the_suspicion_by_a_letter_of_its_own(self):
        self.assertEqual(last(begin(3, 1, 5), probe(0, 1), *[tick(0)] * 4, lose(0), lose(0), lose(0)), [-1])


class PatiencePassed(unittest.TestCase):
    def test_gone_just_before_at_and_just_behind(self):
        for patience in (1, 2, 20):
            world = World(2, 1, patience)
            ticks(world, 0, 3)
            world.nodes[0].learn(1, 6, 1)
            ticks(world, 0, patience - 1)
            self.assertEqual((world.nodes[0].facts[1], world.nodes[0].since[1]), ((6, 1), 3))
            world.tick(0)
            self.assertEqual((world.nodes[0].facts[1], world.nodes[0].since[1]), ((6, 2), 3 + patience))
            world.tick(0)
            self.assertEqual((world.nodes[0].facts[1], world.nodes[0].since[1]), ((6, 2), 3 + patience))

    def test_from_blame_to_gone(self):
        world = World(2, 2, 3)
        world.probe(0, 1)
        ticks(world, 0, 4)
        self.assertEqual(world.nodes[0].facts[1], (0, 1))
        ticks(world, 0, 2)
        self.assertEqual(world.nodes[0].facts[1], (0, 1))
        world.tick(0)
        self.assertEqual((world.nodes[0].facts[1], world.nodes[0].since[1]), ((0, 2), 7))

    def test_each_by_its_own_since_when(self):
        world = World(4, 1, 2)
        world.nodes[0].learn(3, 0, 1)
        world.tick(0)
        world.nodes[0].learn(1, 0, 1)
        world.tick(0)
        self.assertEqual(world.nodes[0].facts, [(0, 0), (0, 1), (0, 0), (0, 2)])
        world.tick(0)
        self.assertEqual(world.nodes[0].facts, [(0, 0), (0, 2), (0, 0), (0, 2)])
        self.assertEqual(world.nodes[0].since, [0, 3, 0, 2])

    def test_who_is_there_stays_there(self):
        world = World(3, 1, 1)
        ticks(world, 0, 30)
        self.assertEqual(world.nodes[0].facts, [(0, 0)] * 3)

    def test_the_facts_of_another_stay(self):
        world = World(3, 1, 1)
        world.nodes[0].learn(1, 0, 1)
        world.nodes[2].learn(1, 0, 1)
        ticks(world, 0, 5)
        self.assertEqual(world.nodes[2].facts[1], (0, 1))
