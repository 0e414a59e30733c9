"""Stop and start: their refusals, what stays on disk, what a stopped node does, how it begins anew."""

import unittest

from tests.calls import (begin, blames, firsts, keep, last, letters, lose, node, play, probe, sees, start, stop, take,
                         tick, told_of)
from whoisthere.world import World

# Node 0 asks 1 and then suspects it; it has helped 2 to ask 3, and so has asked two; its clock is 3.
# On their way: two helps of 0, a help of 2, and the ask that 0 has sent for 2.
BUSY = (begin(4, 1, 9), probe(0, 1), lose(0), tick(0), tick(0), probe(2, 3), lose(2), tick(2), take(2), tick(0))


class Stop(unittest.TestCase):
    def test_answers_nought(self):
        for which in range(5):
            self.assertEqual(last(begin(5, 1, 1), stop(which)), [0])

    def test_no_such_node(self):
        for nodes in (2, 3, 4, 5):
            for which, answer in ((nodes - 1, 0), (nodes, -1), (9, -1)):
                self.assertEqual(last(begin(nodes, 1, 1), stop(which)), [answer], (nodes, which))

    def test_it_has_stopped_already(self):
        self.assertEqual(firsts(begin(3, 1, 1), stop(1), stop(1), stop(0), stop(1), stop(3)), [0, 0, -2, 0, -2, -1])

    def test_that_node_alone_stops(self):
        got = firsts(begin(3, 1, 1), stop(1), tick(0), tick(1), tick(2))
        self.assertEqual(got, [0, 0, 1, -3, 1])

    def test_all_may_stop(self):
        got = firsts(begin(3, 1, 1), stop(0), stop(1), stop(2), tick(0), tick(1), tick(2), start(2), tick(2))
        self.assertEqual(got, [0, 0, 0, 0, -3, -3, -3, 1, 1])

    def test_refused_changes_nothing(self):
        world = World(3, 1, 1)
        world.probe(0, 1)
        world.probe(1, 0)
        world.stop_node(1)
        before = told_of(world)
        self.assertEqual([world.stop_node(1), world.stop_node(3), world.stop_node(9)], [-2, -1, -1])
        self.assertEqual(told_of(world), before)

    def test_but_for_that_it_runs_all_is_told_as_it_was(self):
        got = play(*BUSY, node(0), stop(0), node(0))
        self.assertEqual(got[-1], [0] + got[-3][1:])
        self.assertEqual(got[-3], [1, 0, 2, 3, 0, 0, 0, 1, 0, 0, 0, 0, 0, 2, 0, 0, 0, 1, 2, 2, 1])

    def test_its_asking_is_told_as_it_was(self):
        got = play(begin(2, 1, 9), tick(1), probe(1, 0), tick(1), stop(1), node(1))
        self.assertEqual(got[-1], [0, 0, 1, 2, 0, 0, 0, 0, 0, 0, 1, 0, 1, 1, 1, 0])

    def test_its_letters_stay_on_their_way(self):
        got = play(*BUSY, letters(), stop(0), letters(), start(0), letters())
        self.assertEqual(got[-5][0], 4)
        self.assertEqual([got[-3], got[-1]], [got[-5]] * 2)

    def test_others_are_not_told(self):
        got = play(begin(2, 1, 1), stop(0), node(1), sees(1))
        self.assertEqual(got[2:], [[1, 0, 0, 0, 0, 0, 0, 0, 0, 0, 0, 0], [2, 0, 1]])


class AtAStoppedNode(unittest.TestCase):
    def test_probe_is_refused(self):
        got = firsts(begin(3, 1, 1), stop(0), probe(0, 1), probe(1, 0), probe(0, 0), probe(0, 3), probe(3, 0))
        self.assertEqual(got, [0, 0, -3, 1, -1, -1, -1])

    def test_tick_is_refused(self):
        got = firsts(begin(3, 1, 1), tick(0), stop(0), tick(0), tick(1), tick(3), start(0), tick(0))
        self.assertEqual(got, [0, 1, 0, -3, 1, -1, 1, 1])

    def test_refused_changes_nothing(self):
        got = play(*BUSY, stop(0), node(0), letters(), tick(0), probe(0, 1), node(0), letters(), blames())
        self.assertEqual(got[-5:-3], [[-3], [-3]])
        self.assertEqual(got[-3:-1], got[-7:-5])
        self.assertEqual(got[-1], [1, 0, 1, 0])

    def test_a_letter_that_is_taken_is_of_no_use_and_out(self):
        got = play(begin(2, 1, 1), probe(0, 1), stop(1), node(1), take(0), node(1), letters(), take(0))
        self.assertEqual(got[4:], [[0], got[3], [0], [-1]])

    def test_a_letter_that_is_kept_is_of_no_use_and_lies_on(self):
        got = play(begin(2, 1, 1), probe(0, 1), stop(1), node(1), letters(), keep(0), keep(0), node(1), letters())
        self.assertEqual(got[5:], [[0], [0], got[3], got[4]])
        self.assertEqual(got[4], [1, 0, 1, 0, 1, 0, 0, 0, 0, 0])

    def test_each_kind_of_letter(self):
        # Ask to 1, help to 2, here to 0.
        calls = (begin(3, 1, 5), probe(0, 1), tick(0), keep(0), stop(0), stop(1), stop(2))
        for handing in (take, keep):
            self.assertEqual(firsts(*calls, handing(2), handing(1), handing(0))[-3:], [0, 0, 0])

    def test_a_letter_that_is_lost_is_out(self):
        self.assertEqual(play(begin(2, 1, 1), probe(0, 1), stop(1), lose(0), letters())[3:], [[0], [0]])

    def test_a_kept_letter_comes_once_it_runs_again(self):
        got = firsts(begin(2, 1, 1), probe(0, 1), stop(1), keep(0), start(1), keep(0), take(0), take(0))
        self.assertEqual(got, [0, 1, 0, 0, 1, 1, 1, 2])

    def test_that_it_is_suspected_is_not_heard(self):
        # Node 0 suspects 1 and says so, while 1 has stopped.
        calls = (begin(2, 1, 9), probe(0, 1), tick(0), tick(0), lose(0), probe(0, 1), stop(1))
        self.assertEqual(play(*calls, take(0), node(1))[-2:], [[0], [0] * 12])

    def test_it_is_asked_blamed_and_gone_like_any_other(self):
        got = play(begin(2, 1, 2), stop(1), probe(0, 1), take(0), tick(0), tick(0), sees(0), tick(0), sees(0), tick(0),
                   sees(0), blames())
        self.assertEqual(got[3:], [[0], [1], [2], [2, 0, 1], [3], [2, 0, 1], [4], [1, 0], [1, 0, 1, 0]])

    def test_its_letters_are_handed_over_to_others(self):
        got = firsts(begin(2, 1, 1), probe(0, 1), stop(0), take(0), keep(0), start(0), take(0))
        # The here comes to a node that has begun anew, and so asks nobody.
        self.assertEqual(got, [0, 1, 0, 1, 0, 1, 5])


class Start(unittest.TestCase):
    def test_answers_its_own_number(self):
        got = firsts(begin(2, 1, 1), stop(1), start(1), stop(1), start(1), stop(0), start(0), stop(1), start(1))
        self.assertEqual(got, [0, 0, 1, 0, 2, 0, 1, 0, 3])

    def test_no_such_node(self):
        for nodes in (2, 3, 4, 5):
            for which, answer in ((nodes - 1, 1), (nodes, -1), (9, -1)):
                got = last(begin(nodes, 1, 1), stop(nodes - 1), start(which))
                self.assertEqual(got, [answer], (nodes, which))

    def test_it_runs_already(self):
        got = firsts(begin(3, 1, 1), start(0), start(2), stop(2), start(1), start(2), start(2), start(3))
        self.assertEqual(got, [0, -2, -2, 0, -2, 1, -2, -1])

    def test_refused_changes_nothing(self):
        got = play(*BUSY, node(0), start(0), node(0), start(9), node(0), letters())
        self.assertEqual([got[-5], got[-3]], [[-2], [-1]])
        self.assertEqual([got[-4], got[-2]], [got[-6]] * 2)

    def test_on_disk_stays_and_in_memory_is_as_at_first(self):
        got = last(*BUSY, stop(0), start(0), node(0))
        self.assertEqual(got, [1, 1, 2, 0, 1, 0, 0, 0, 0, 0, 0, 0, 0, 0, 0, 0, 0, 0])

    def test_its_asking_is_over(self):
        got = play(begin(2, 1, 9), tick(1), probe(1, 0), stop(1), start(1), node(1), tick(1), tick(1), blames())
        self.assertEqual(got[5], [1, 1, 1, 0, 0, 0, 1, 0, 0, 0, 0, 0])
        self.assertEqual(got[-1], [0])

    def test_what_it_asked_for_others_is_not_told_on(self):
        # The ask that 0 has sent for 2 is letter 3, and so is then the here to 0.
        self.assertEqual(firsts(*BUSY, take(3), take(3))[-2:], [1, 3])
        self.assertEqual(firsts(*BUSY, stop(0), start(0), take(3), take(3), take(3))[-3:], [1, 5, -1])

    def test_it_asks_on_by_greater_numbers(self):
        self.assertEqual(firsts(*BUSY, stop(0), start(0), probe(0, 1), probe(0, 2))[-2:], [3, 4])

    def test_a_here_of_before_is_but_heard_beside_its_new_asking(self):
        got = firsts(begin(2, 1, 1), probe(0, 1), take(0), stop(0), start(0), probe(0, 1), take(0), take(0), take(0))
        self.assertEqual(got, [0, 1, 1, 0, 1, 2, 5, 1, 2])

    def test_its_own_number_on_disk_is_what_it_had_said(self):
        # Node 1 is suspected, hears of it (own number 1), stops, and begins anew by 2.
        calls = (begin(2, 1, 9), probe(0, 1), tick(0), tick(0), lose(0), probe(0, 1), take(0), tick(1), stop(1))
        self.assertEqual(last(*calls, node(1)), [0, 1, 0, 1, 0, 0, 1, 0, 0, 0, 0, 0])
        self.assertEqual(last(*calls, start(1)), [2])
        self.assertEqual(last(*calls, start(1), node(1)), [1, 2, 0, 0, 0, 0, 2, 0, 0, 0, 0, 0])

    def test_it_forgets_who_was_gone(self):
        calls = (begin(3, 1, 1), probe(0, 1), tick(0), tick(0), tick(0))
        self.assertEqual(play(*calls, sees(0), stop(0), sees(0), start(0), sees(0))[5:],
                         [[2, 0, 2], [0], [2, 0, 2], [1], [3, 0, 1, 2]])

    def test_blames_stay(self):
        calls = (begin(3, 1, 1), probe(0, 1), tick(0), tick(0))
        self.assertEqual(play(*calls, stop(0), start(0), blames())[-1], [1, 0, 1, 0])

    def test_who_has_begun_anew_counts_for_more_than_that_it_was_gone(self):
        # Node 0 holds 1 for gone; 1 begins anew, and asks 0.
        calls = (begin(2, 1, 1), probe(0, 1), lose(0), stop(1), tick(0), tick(0), tick(0), sees(0), start(1))
        got = play(*calls, probe(1, 0), letters(), take(0), node(0), sees(0), take(0))
        self.assertEqual(got[7:], [[1, 0], [1], [1], [1, 0, 0, 1, 1, 0, 0, 0, 1, 0], [1],
                                   [1, 0, 1, 3, 0, 0, 1, 0, 0, 3, 0, 0], [2, 0, 1], [2]])

    def test_suspected_with_the_number_it_began_anew_by(self):
        calls = (begin(2, 1, 9), stop(1), start(1), probe(1, 0), take(0), probe(0, 1), tick(0), tick(0))
        self.assertEqual(play(*calls, node(0), blames())[-2:], [[1, 0, 1, 2, 0, 0, 1, 1, 0, 2, 0, 0], [1, 0, 1, 1]])

    def test_begin_makes_all_run_with_nothing_on_disk(self):
        calls = (*BUSY, stop(0), start(0), stop(0), stop(3), begin(4, 1, 1))
        for which in range(4):
            self.assertEqual(play(*calls, node(which), start(which))[-2:], [[1] + [0] * 17, [-2]])
