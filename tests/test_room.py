"""Room for 100 letters on their way."""

import unittest

from tests.calls import asking_of, begin, firsts, keep, last, lose, play, probe, row_of, take, tick
from whoisthere.world import World

# Four letters each: an ask, and three that are asked to help.
FOUR = (probe(0, 1), tick(0))


def filled(count):
    """A world of five with so many asks on their way, of node 0 to 1, and wait 1."""
    world = World(5, 1, 20)
    for _ in range(count):
        world.probe(0, 1)
    return world


class Room(unittest.TestCase):
    def test_the_hundredth_finds_room_and_the_next_none(self):
        start = [begin(5, 1, 20), *FOUR * 24]
        self.assertEqual(play(*start, *[probe(4, 1)] * 3, take(99))[-1], [-1])
        self.assertEqual(play(*start, *[probe(4, 1)] * 4, take(99))[-1], [1])
        self.assertEqual(play(*start, *[probe(4, 1)] * 5, take(100))[-1], [-1])

    def test_who_sends_does_not_know_that_it_is_lost(self):
        got = firsts(begin(5, 1, 20), *FOUR * 25, probe(2, 1), probe(2, 1), lose(0), probe(2, 1), take(99), take(99))
        self.assertEqual(got[-6:], [1, 2, 0, 3, 1, 2])

    def test_of_several_at_once_the_first_find_room(self):
        for count, sent in ((96, (2, 3, 4)), (97, (2, 3, 4)), (98, (2, 3)), (99, (2,)), (100, ())):
            world = filled(count)
            world.tick(0)
            self.assertEqual(row_of(world)[count:], [(2, k, 0, count, 1) for k in sent])
            self.assertEqual(asking_of(world.nodes[0]), (1, count, 0, True))

    def test_of_several_at_once_by_the_calls(self):
        start = [begin(5, 1, 20), *FOUR * 24, *[probe(4, 1)] * 3]
        for letter, came in ((98, 1), (99, 4), (100, -1)):
            got = last(*start[:-1], probe(0, 1), tick(0), take(letter))
            self.assertEqual(got, [came], letter)

    def test_help_that_was_lost_is_not_sent_later(self):
        world = filled(100)
        world.tick(0)
        for _ in range(50):
            world.lose(0)
        world.tick(0)
        self.assertEqual(len(world.row), 50)
        self.assertEqual(world.blamed, [(0, 1, 0)])

    def test_take_makes_room_for_the_answer(self):
        world = filled(100)
        self.assertEqual(world.take(0), 1)
        self.assertEqual(len(world.row), 100)
        self.assertEqual(row_of(world)[99], (1, 0, 1, 1, 0))

    def test_keep_in_a_full_row_loses_the_answer(self):
        world = filled(100)
        self.assertEqual(world.keep(0), 1)
        self.assertEqual(len(world.row), 100)
        self.assertEqual(row_of(world)[99], (0, 1, 0, 100, 0))

    def test_keep_in_a_full_row_by_the_calls(self):
        got = firsts(begin(5, 1, 20), *FOUR * 25, keep(0), keep(100), keep(1), lose(0), keep(0), keep(99), keep(99))
        # What was sent for the first two is lost; the ask of the third one finds room.
        self.assertEqual(got[-7:], [1, -1, 4, 0, 4, 1, 1])

    def test_help_in_a_full_row_is_noted_though_its_ask_is_lost(self):
        world = filled(99)
        world.tick(0)
        self.assertEqual(world.keep(99), 4)
        self.assertEqual(len(world.row), 100)
        self.assertEqual(world.nodes[2].asked, 1)
        self.assertEqual(world.nodes[2].for_others, {1: (0, 99)})

    def test_here_told_on_in_a_full_row_is_lost_and_over(self):
        world = filled(99)
        world.tick(0)
        self.assertEqual([world.take(99), world.take(99)], [4, 1])
        self.assertEqual([world.keep(99), world.keep(99)], [3, 5])
        self.assertEqual(len(world.row), 100)
        self.assertEqual(world.nodes[2].for_others, {})
