"""Facts: what counts for more, what is heard of others and of itself."""

import unittest

from tests.calls import told_of
from whoisthere.world import World, counts_for_more


def heard(before, told):
    """What node 0, at clock 2, knows of node 2, and since when, once node 1 has told it."""
    world = World(3, 9, 9)
    world.nodes[0].learn(2, before[0], before[1])
    world.nodes[1].learn(2, told[0], told[1])
    world.probe(1, 0)
    world.tick(0)
    world.tick(0)
    world.nodes[0].since[2] = 1
    world.take(0)
    return world.nodes[0].facts[2], world.nodes[0].since[2]


def heard_of_itself(own, told):
    """Node 0, of own number, at clock 1, once node 1 has told it this of itself."""
    world = World(2, 9, 9)
    world.nodes[0].own = own
    world.nodes[0].learn(0, own, 0)
    world.nodes[1].learn(0, told[0], told[1])
    world.probe(1, 0)
    world.tick(0)
    world.take(0)
    return world.nodes[0]


class CountsForMore(unittest.TestCase):
    def test_in_this_order_alone(self):
        facts = [(number, sort) for number in range(3) for sort in range(3)]
        for i, fact in enumerate(facts):
            for k, other in enumerate(facts):
                self.assertIs(counts_for_more(fact, other), i > k, (fact, other))


class OfAnother(unittest.TestCase):
    def test_what_counts_for_more_is_learned_since_now(self):
        for before, told in (((0, 0), (0, 1)), ((0, 0), (0, 2)), ((0, 1), (0, 2)), ((0, 2), (1, 0)),
                             ((3, 1), (4, 0)), ((3, 0), (4, 2)), ((3, 1), (4, 1))):
            self.assertEqual(heard(before, told), (told, 2))

    def test_what_does_not_is_left_as_it_was(self):
        for before, told in (((0, 0), (0, 0)), ((0, 1), (0, 0)), ((0, 1), (0, 1)), ((0, 2), (0, 1)),
                             ((0, 2), (0, 2)), ((1, 0), (0, 2)), ((4, 0), (3, 2))):
            self.assertEqual(heard(before, told), (before, 1))

    def test_each_node_in_the_letter_is_heard(self):
        world = World(5, 9, 9)
        for whom, number, sort in ((1, 1, 0), (2, 0, 1), (3, 2, 2), (4, 5, 0)):
            world.nodes[1].learn(whom, number, sort)
        world.nodes[0].learn(3, 3, 0)
        world.probe(1, 0)
        world.take(0)
        self.assertEqual(world.nodes[0].facts, [(0, 0), (1, 0), (0, 1), (3, 0), (5, 0)])

    def test_heard_from_each_kind_of_letter(self):
        world = World(3, 1, 9)
        world.nodes[0].learn(1, 1, 0)
        world.probe(0, 1)
        world.tick(0)
        # A help, that an ask goes out for; then its here comes back.
        world.take(1)
        self.assertEqual(world.nodes[2].facts[1], (1, 0))
        world.nodes[1].learn(0, 7, 0)
        world.take(1)
        world.take(1)
        self.assertEqual(world.nodes[2].facts[0], (7, 0))

    def test_a_letter_that_is_but_heard_is_heard(self):
        world = World(3, 9, 9)
        world.probe(0, 1)
        world.probe(0, 2)
        world.nodes[1].learn(2, 0, 1)
        world.take(0)
        self.assertEqual(world.take(1), 5)
        self.assertEqual(world.nodes[0].facts[2], (0, 1))

    def test_a_stopped_node_hears_nothing(self):
        world = World(3, 9, 9)
        world.nodes[1].learn(2, 0, 1)
        world.probe(1, 0)
        world.nodes[0].runs = False
        nodes = told_of(world)[2]
        self.assertEqual(world.take(0), 0)
        self.assertEqual(told_of(world)[2], nodes)

    def test_suspicion_heard_begins_patience_anew(self):
        world = World(3, 9, 3)
        world.nodes[1].learn(2, 0, 1)
        world.probe(1, 0)
        for _ in range(2):
            world.tick(0)
        world.take(0)
        for _ in range(2):
            world.tick(0)
        self.assertEqual(world.nodes[0].facts[2], (0, 1))
        world.tick(0)
        self.assertEqual(world.nodes[0].facts[2], (0, 2))


class OfItself(unittest.TestCase):
    def test_number_below_its_own(self):
        for sort in (0, 1, 2):
            node = heard_of_itself(3, (2, sort))
            self.assertEqual((node.own, node.facts[0], node.since[0]), (3, (3, 0), 0))

    def test_number_at_its_own(self):
        for own in (0, 3):
            for sort in (1, 2):
                node = heard_of_itself(own, (own, sort))
                self.assertEqual((node.own, node.facts[0], node.since[0]), (own + 1, (own + 1, 0), 1))

    def test_number_above_its_own(self):
        for sort in (1, 2):
            node = heard_of_itself(3, (6, sort))
            self.assertEqual((node.own, node.facts[0], node.since[0]), (7, (7, 0), 1))

    def test_there_is_left_as_it_is(self):
        for told in ((3, 0), (5, 0)):
            node = heard_of_itself(3, told)
            self.assertEqual((node.own, node.facts[0], node.since[0]), (3, (3, 0), 0))

    def test_who_is_wrongly_suspected_says_so(self):
        world = World(3, 1, 9)
        world.probe(0, 1)
        world.tick(0)
        world.tick(0)
        world.probe(0, 1)
        self.assertEqual(world.nodes[0].facts[1], (0, 1))
        # The second ask tells the suspicion, and the here tells otherwise.
        self.assertEqual(world.take(2), 1)
        self.assertEqual(world.row[-1].facts[1], (1, 0))
        self.assertEqual(world.take(2), 2)
        self.assertEqual(world.nodes[0].facts[1], (1, 0))
        self.assertEqual(world.nodes[0].since[1], 2)

    def test_a_suspicion_that_comes_twice_is_answered_by_one_number(self):
        world = World(2, 9, 9)
        world.nodes[0].learn(1, 0, 1)
        world.probe(0, 1)
        world.keep(0)
        world.keep(0)
        self.assertEqual(world.nodes[1].own, 1)


class FactsInLetters(unittest.TestCase):
    def test_as_they_are_when_it_is_sent(self):
        world = World(2, 1, 1)
        world.probe(0, 1)
        world.nodes[0].learn(1, 0, 1)
        world.probe(0, 1)
        self.assertEqual([letter.facts for letter in world.row], [[(0, 0), (0, 0)], [(0, 0), (0, 1)]])

    def test_an_answer_tells_what_was_just_heard(self):
        world = World(3, 1, 1)
        world.nodes[0].learn(2, 1, 2)
        world.probe(0, 1)
        world.take(0)
        self.assertEqual(world.row[0].facts, [(0, 0), (0, 0), (1, 2)])

    def test_what_is_heard_later_leaves_a_kept_letter_as_it_was(self):
        world = World(2, 9, 9)
        world.nodes[0].learn(1, 0, 1)
        world.probe(0, 1)
        world.keep(0)
        self.assertEqual(world.row[0].facts, [(0, 0), (0, 1)])
