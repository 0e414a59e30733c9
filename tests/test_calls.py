"""The calls 0 to 5: ordinary inputs and refusals at their edges; of all calls: no world, the interface."""

import unittest

from tests.calls import (begin, blames, firsts, keep, last, letters, lose, node, play, probe, row_of, sees, start,
                         stop, take, tick, told_of)
from whoisthere.world import Line, World, answers


class Begin(unittest.TestCase):
    def test_nodes_at_their_edges(self):
        for nodes, answer in ((0, -1), (1, -1), (2, 0), (3, 0), (5, 0), (6, -1), (9, -1)):
            self.assertEqual(last(begin(nodes, 1, 1)), [answer], nodes)

    def test_wait_and_patience_at_their_edges(self):
        for number, answer in ((0, -1), (1, 0), (2, 0), (19, 0), (20, 0), (21, -1), (99, -1)):
            self.assertEqual(last(begin(3, number, 7)), [answer], number)
            self.assertEqual(last(begin(3, 7, number)), [answer], number)

    def test_world_as_at_first(self):
        world = World(3, 4, 5)
        node = (True, 0, 0, 0, [(0, 0)] * 3, [0] * 3, None, {})
        self.assertEqual(told_of(world), (4, 5, [node] * 3, [], [], []))

    def test_wait_and_patience_are_not_mixed_up(self):
        line = Line()
        self.assertEqual(line.answer(0, [2, 3, 9]), [0])
        self.assertEqual((len(line.world.nodes), line.world.wait, line.world.patience), (2, 3, 9))

    def test_begin_again_is_a_new_world(self):
        got = firsts(begin(3, 1, 1), probe(0, 2), tick(0), begin(2, 1, 1),
                     take(0), tick(0), probe(0, 2), probe(0, 1), take(0))
        self.assertEqual(got, [0, 1, 1, 0, -1, 1, -1, 1, 1])

    def test_refused_begin_leaves_the_world_as_it_was(self):
        for bad in (begin(1, 1, 1), begin(6, 1, 1), begin(2, 0, 1), begin(2, 21, 1), begin(2, 1, 0), begin(2, 1, 21)):
            got = firsts(begin(3, 1, 1), probe(0, 2), tick(0), bad, tick(0), probe(0, 2), take(0))
            self.assertEqual(got, [0, 1, 1, -1, 2, 2, 1], bad)

    def test_refused_begin_makes_no_world(self):
        self.assertEqual(firsts(begin(6, 1, 1), tick(0), begin(5, 1, 1), tick(0)), [-1, -9, 0, 1])


class NoWorld(unittest.TestCase):
    def test_all_but_begin_are_answered_so(self):
        for call in (probe(0, 1), tick(0), take(0), keep(0), lose(0), stop(0), start(0), letters(), node(0), sees(0),
                     blames()):
            self.assertEqual(play(call), [[-9]], call)

    def test_ahead_of_all_other_refusals(self):
        for call in (probe(9, 9), probe(1, 1), tick(9), take(200), keep(200), lose(200), stop(9), start(9), node(9),
                     sees(9)):
            self.assertEqual(play(call), [[-9]], call)

    def test_a_refused_begin_leaves_it_so(self):
        for call in (stop(0), start(0), letters(), node(0), sees(0), blames()):
            self.assertEqual(play(begin(1, 1, 1), call), [[-1], [-9]], call)


class Probe(unittest.TestCase):
    def test_answers_by_which_number_each_node_by_its_own_count(self):
        got = firsts(begin(3, 1, 1), probe(0, 1), probe(0, 2), probe(2, 0), probe(0, 1), probe(1, 0))
        self.assertEqual(got, [0, 1, 2, 1, 3, 1])

    def test_an_ask_goes_out(self):
        world = World(3, 2, 2)
        world.probe(0, 1)
        world.probe(2, 0)
        world.probe(0, 2)
        self.assertEqual(row_of(world), [(0, 1, 0, 1, 0), (0, 0, 2, 1, 0), (0, 2, 0, 2, 0)])

    def test_the_asking_takes_the_place_of_the_one_before(self):
        world = World(3, 3, 3)
        world.probe(0, 1)
        for _ in range(3):
            world.tick(0)
        self.assertTrue(world.nodes[0].asking.helped)
        world.probe(0, 2)
        asking = world.nodes[0].asking
        self.assertEqual((asking.whom, asking.number, asking.since, asking.helped), (2, 2, 3, False))

    def test_no_such_node(self):
        for nodes in (2, 3, 4, 5):
            inside, outside = nodes - 1, nodes
            for node, whom, answer in ((inside, 0, 1), (0, inside, 1), (outside, 0, -1), (0, outside, -1),
                                       (9, 0, -1), (0, 9, -1), (outside, outside, -1)):
                self.assertEqual(last(begin(nodes, 1, 1), probe(node, whom)), [answer], (nodes, node, whom))

    def test_the_same(self):
        for node in range(5):
            self.assertEqual(last(begin(5, 1, 1), probe(node, node)), [-1])

    def test_stopped_comes_behind_no_such_node(self):
        world = World(2, 1, 1)
        world.nodes[0].runs = False
        self.assertEqual([world.probe(0, 1), world.probe(0, 0), world.probe(0, 2), world.probe(1, 0)], [-3, -1, -1, 1])

    def test_refused_changes_nothing(self):
        world = World(2, 1, 1)
        world.probe(0, 1)
        world.nodes[1].runs = False
        before = told_of(world)
        for node, whom in ((0, 0), (0, 2), (2, 0), (1, 0)):
            world.probe(node, whom)
            self.assertEqual(told_of(world), before)


class Tick(unittest.TestCase):
    def test_answers_its_clock(self):
        got = firsts(begin(2, 1, 1), tick(0), tick(0), tick(1), tick(0), tick(1))
        self.assertEqual(got, [0, 1, 2, 1, 3, 2])

    def test_no_such_node(self):
        for nodes in (2, 3, 4, 5):
            self.assertEqual(last(begin(nodes, 1, 1), tick(nodes - 1)), [1])
            self.assertEqual(last(begin(nodes, 1, 1), tick(nodes)), [-1])
        self.assertEqual(last(begin(5, 1, 1), tick(9)), [-1])

    def test_stopped_comes_behind_no_such_node(self):
        world = World(2, 1, 1)
        world.probe(1, 0)
        world.nodes[1].runs = False
        before = told_of(world)
        self.assertEqual([world.tick(1), world.tick(2)], [-3, -1])
        self.assertEqual(told_of(world), before)


class Row(unittest.TestCase):
    def test_just_inside_and_just_behind_the_row(self):
        start = [begin(3, 1, 1), probe(0, 1), probe(1, 2)]
        for call, inside in ((take, 1), (keep, 1), (lose, 0)):
            for letter, answer in ((0, inside), (1, inside), (2, -1), (3, -1), (200, -1)):
                self.assertEqual(last(*start, call(letter)), [answer], (call, letter))

    def test_no_letter_in_an_empty_row(self):
        for call in (take, keep, lose):
            self.assertEqual(last(begin(2, 1, 1), call(0)), [-1])

    def test_refused_changes_nothing(self):
        world = World(3, 1, 1)
        world.probe(0, 1)
        before = told_of(world)
        self.assertEqual([world.take(1), world.keep(1), world.lose(1)], [-1, -1, -1])
        self.assertEqual(told_of(world), before)

    def test_lose_takes_out_that_letter_and_hands_nothing_over(self):
        world = World(4, 1, 1)
        for whom in (1, 2, 3):
            world.probe(0, whom)
        nodes = told_of(world)[2]
        self.assertEqual(world.lose(1), 0)
        self.assertEqual(row_of(world), [(0, 1, 0, 1, 0), (0, 3, 0, 3, 0)])
        self.assertEqual(told_of(world)[2], nodes)

    def test_take_takes_out_that_letter(self):
        world = World(4, 1, 1)
        for whom in (1, 2, 3):
            world.probe(0, whom)
        self.assertEqual(world.take(1), 1)
        self.assertEqual(row_of(world), [(0, 1, 0, 1, 0), (0, 3, 0, 3, 0), (1, 0, 2, 2, 0)])

    def test_keep_lets_it_lie_where_it_was(self):
        world = World(4, 1, 1)
        for whom in (1, 2, 3):
            world.probe(0, whom)
        self.assertEqual(world.keep(1), 1)
        self.assertEqual(row_of(world), [(0, 1, 0, 1, 0), (0, 2, 0, 2, 0), (0, 3, 0, 3, 0), (1, 0, 2, 2, 0)])


class Interface(unittest.TestCase):
    CALLS = (begin(3, 1, 2) + probe(0, 1) + tick(0) + keep(0) + take(1) + lose(0) + tick(0) + probe(5, 5)
             + take(0) + take(0) + begin(9, 9, 9) + tick(0) + stop(1) + letters() + node(1) + sees(1) + blames()
             + start(1) + node(5) + sees(5))

    def test_counts_stand_ahead_of_what_is_answered(self):
        got = answers(list(self.CALLS))
        self.assertEqual(got, [
            1, 0, 1, 1, 1, 1, 1, 1, 1, 4, 1, 0, 1, 2, 1, -1, 1, 5, 1, 1, 1, -1, 1, 3,
            1, 0, 12, 1, 1, 2, 1, 1, 0, 0, 0, 0, 0, 0, 0, 15, 0, 0, 0, 0, 0, 0, 0, 0, 0, 0, 0, 0, 0, 0, 0,
            4, 3, 0, 1, 2, 4, 1, 0, 1, 0, 1, 1, 1, -1, 1, -1,
        ])

    def test_what_is_handed_in_is_not_changed(self):
        calls = list(self.CALLS)
        answers(calls)
        self.assertEqual(calls, list(self.CALLS))

    def test_a_second_time_answers_the_same(self):
        calls = list(self.CALLS)
        first = answers(calls)
        answers(begin(2, 1, 1) + probe(0, 1) + tick(0))
        self.assertEqual(answers(calls), first)

    def test_nothing_is_kept_from_one_time_to_the_next(self):
        answers(begin(2, 1, 1) + probe(0, 1))
        self.assertEqual(answers(take(0) + tick(0)), [1, -9, 1, -9])

    def test_each_list_given_back_is_new(self):
        first = answers(begin(2, 1, 1))
        first.append(7)
        self.assertEqual(answers(begin(2, 1, 1)), [1, 0])

    def test_whole_numbers_alone(self):
        got = answers(list(self.CALLS))
        self.assertIs(type(got), list)
        for number in got:
            self.assertIs(type(number), int)

    def test_a_hundred_calls(self):
        got = firsts(begin(2, 20, 20), *[tick(1)] * 99)
        self.assertEqual(got, [0] + list(range(1, 100)))
