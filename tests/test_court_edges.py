"""Points 800 to 804: edges, rivals and halves."""

import unittest

import reckoning
from disputes import (
    IMAGE, Taking, another_pair, ask, court_of, crafted_claim, false_row, start_of, ticks, true_row, twice_false_row,
)
from rows import row

TRUE = true_row(3)
LATE = false_row(3, 6)
EARLY = false_row(3, 2)


class Edges(Taking, unittest.TestCase):
    def test_the_edge_of_a_claim(self):
        for level in (0, 1, 5, 8):
            court = court_of(level)
            own = true_row(level)
            self.takes(court, 0, own.claim(0))
            self.assertEqual(court.edges(0), [(level, 0, 5, start_of(61, IMAGE, ()), own.root(level, 0))])

    def test_no_edge_stands_at_first(self):
        self.assertEqual(court_of(3).edges(0), [])

    def test_edges_stand_from_the_letter_on(self):
        court = court_of(3)
        ticks(court, 3)
        self.claimed(court, TRUE, LATE)
        self.assertEqual(court.edges(0), sorted([TRUE.claimed(), LATE.claimed()]))
        self.assertEqual(court.timer(0, TRUE.claimed()), 0)
        ticks(court, 3)
        self.takes(court, 0, TRUE.halve(0, TRUE.claimed()))
        left, right = TRUE.half_edges(TRUE.claimed())
        self.assertEqual(court.edges(0), sorted([TRUE.claimed(), LATE.claimed(), left, right]))
        self.assertEqual([court.timer(0, left), court.timer(0, right)], [0, 0])

    def test_questions_have_edges_of_their_own(self):
        court = court_of(3)
        self.takes(court, 0, ask(3), TRUE.claim(0), LATE.claim(1))
        self.assertEqual(court.edges(0), [TRUE.claimed()])
        self.assertEqual(court.edges(1), [LATE.claimed()])
        self.assertIs(court.has_rival(0, TRUE.claimed()), False)
        self.assertIs(court.has_rival(1, LATE.claimed()), False)

    def test_all_edges_down_to_a_step(self):
        court = court_of(3)
        self.claimed(court, TRUE, LATE)
        self.halved(court, 6, TRUE, LATE)
        expected = set()
        for own in (TRUE, LATE):
            for edge in own.way_to(6):
                expected.add(edge)
                expected.update(own.half_edges(edge) if edge[0] > 0 else ())
        self.assertEqual(court.edges(0), sorted(expected))
        # The claims, four halves with one that is shared at level 2, and so on; the left one is not shared at level 0.
        self.assertEqual([edge[0] for edge in court.edges(0)], [0] * 3 + [1] * 4 + [2] * 3 + [3] * 2)


class Rivals(Taking, unittest.TestCase):
    def test_claims_with_different_roots(self):
        court = court_of(3)
        self.takes(court, 0, TRUE.claim(0))
        self.assertIs(court.has_rival(0, TRUE.claimed()), False)
        self.takes(court, 1, LATE.claim(0))
        for own in (TRUE, LATE):
            self.assertIs(court.has_rival(0, own.claimed()), True)
        self.takes(court, 2, EARLY.claim(0))
        for own in (TRUE, LATE, EARLY):
            self.assertIs(court.has_rival(0, own.claimed()), True)

    def test_halves_that_differ_in_the_start(self):
        court = court_of(1)
        # Both steps of the second row are turned: its second half has another start and another prefix.
        own, other = true_row(1), false_row(1, 1)
        self.claimed(court, own, other)
        self.halved(court, 1, own, other)
        self.assertIs(court.has_rival(0, own.edge(0, 0)), True)
        self.assertIs(court.has_rival(0, other.edge(0, 0)), True)
        self.assertIs(court.has_rival(0, own.edge(0, 1)), False)
        self.assertIs(court.has_rival(0, other.edge(0, 1)), False)

    def test_halves_with_other_prefixes_and_one_start(self):
        # A lie that is taken back: the state behind step 2 is the true one, the digest behind step 1 is not.
        back = row(61, IMAGE, (), 2, ("word", 1, 200, 9), ("word", 2, 200, 0))
        own, other = true_row(2), row(61, IMAGE, (), 2, ("word", 3, 200, 9))
        self.assertEqual(back.row[1:], own.row[1:])
        court = court_of(2)
        self.claimed(court, own, back, other)
        for one in (own, back, other):
            self.takes(court, 0, one.halve(0, one.claimed()))
        right, right_back = own.edge(1, 1), back.edge(1, 1)
        self.assertEqual(right[3:], right_back[3:])
        self.assertNotEqual(right[2], right_back[2])
        self.assertEqual(other.edge(1, 1)[:4], right[:4])
        self.assertIs(court.has_rival(0, right_back), False)
        self.assertIs(court.has_rival(0, right), True)

    def test_edges_with_one_prefix_and_different_starts(self):
        # This needs two pairs with one fold: the left halves are the same edge, with two ways to show its last digest.
        pair = (3, 4)
        other = another_pair(7, pair)
        left = reckoning.fold(7, *pair)
        court = court_of(2, bits=7)
        claims = [crafted_claim(7, 0, (below, left), 77) for below in (1, 2)]
        self.takes(court, 0, *claims)
        start = court.question(0)[0]
        rights = []
        for claim, (first, last) in zip(claims, (pair, other)):
            right = reckoning.fold(7, claim[4][0], claim[3])
            self.takes(court, 1, ("halve", 0, 2, 0, 5, start, claim[2], left, right, last, (first,)))
            rights.append((1, 1, reckoning.fold(7, 5, left), last, right))
        self.assertEqual(rights[0][:3], rights[1][:3])
        self.assertNotEqual(rights[0][3], rights[1][3])
        self.assertNotEqual(rights[0][4], rights[1][4])
        for edge in rights:
            self.assertIn(edge, court.edges(0))
            self.assertIs(court.has_rival(0, edge), False)
        ticks(court, 3)
        self.assertEqual([court.timer(0, edge) for edge in rights], [3, 3])

    def test_the_same_lie_at_another_index(self):
        court = court_of(2)
        own, other, third = true_row(2), false_row(2, 2), false_row(2, 4)
        self.claimed(court, own, other, third)
        for one in (own, other, third):
            self.takes(court, 0, one.halve(0, one.claimed()))
        self.assertEqual({edge: court.has_rival(0, edge) for edge in court.edges(0)}, {
            own.claimed(): True, other.claimed(): True, third.claimed(): True, own.edge(1, 0): True,
            other.edge(1, 0): True, own.edge(1, 1): True, third.edge(1, 1): True, other.edge(1, 1): False})


class Halves(Taking, unittest.TestCase):
    def test_rivals_that_differ_in_the_right_half(self):
        court = court_of(3)
        self.claimed(court, TRUE, LATE)
        for own in (TRUE, LATE):
            self.takes(court, 0, own.halve(0, own.claimed()))
        left, right = court.halves(0, TRUE.claimed())
        other_left, other_right = court.halves(0, LATE.claimed())
        # The left half is a half of both: it stood already when the second one was halved.
        self.assertEqual(left, other_left)
        self.assertNotEqual(right, other_right)
        self.assertEqual(right[:4], other_right[:4])
        self.assertEqual([court.has_rival(0, edge) for edge in (left, right, other_right)], [False, True, True])
        self.assertEqual(len(court.edges(0)), 5)

    def test_rivals_that_differ_in_the_left_half(self):
        court = court_of(3)
        self.claimed(court, TRUE, EARLY)
        for own in (TRUE, EARLY):
            self.takes(court, 0, own.halve(0, own.claimed()))
        left, right = court.halves(0, TRUE.claimed())
        other_left, other_right = court.halves(0, EARLY.claimed())
        self.assertEqual(left[:4], other_left[:4])
        self.assertNotEqual(right[2:4], other_right[2:4])
        self.assertEqual([court.has_rival(0, edge) for edge in (left, right, other_left, other_right)],
                         [True, False, True, False])

    def test_halves_that_stand_already_go_on_as_they_are(self):
        court = court_of(3)
        self.claimed(court, TRUE, LATE, EARLY)
        for own in (TRUE, EARLY):
            self.takes(court, 0, own.halve(0, own.claimed()))
        left = TRUE.edge(2, 0)
        self.takes(court, 0, TRUE.halve(0, left))
        halves = court.halves(0, left)
        ticks(court, 4)
        timer = court.timer(0, left)
        self.assertEqual(timer, 4)
        self.takes(court, 1, LATE.halve(0, LATE.claimed()))
        self.assertEqual(court.halves(0, LATE.claimed())[0], left)
        self.assertEqual(court.halves(0, left), halves)
        self.assertEqual(court.timer(0, left), timer)
        self.assertIs(court.has_rival(0, left), True)

    def test_an_edge_that_stands_already_counts_from_its_first_letter_on(self):
        court = court_of(3)
        self.claimed(court, TRUE, LATE)
        self.takes(court, 0, TRUE.halve(0, TRUE.claimed()))
        ticks(court, 5)
        self.takes(court, 0, LATE.halve(0, LATE.claimed()))
        self.assertEqual(court.timer(0, TRUE.edge(2, 0)), 5)
        ticks(court, 2)
        self.assertEqual(court.timer(0, TRUE.edge(2, 0)), 7)
        self.assertEqual(court.timer(0, LATE.edge(2, 1)), 0)
        self.assertEqual(court.timer(0, TRUE.edge(2, 1)), 5)

    def test_a_proven_half_that_stands_already(self):
        court = court_of(1)
        own, other, third = true_row(1), false_row(1, 2), false_row(1, 1)
        self.claimed(court, own, other, third)
        for one in (own, third):
            self.takes(court, 0, one.halve(0, one.claimed()))
        self.takes(court, 0, own.prove(0, own.edge(0, 0)))
        self.takes(court, 1, other.halve(0, other.claimed()))
        self.assertEqual(court.halves(0, other.claimed())[0], own.edge(0, 0))
        self.assertIs(court.is_proven(0, own.edge(0, 0)), True)
        # The other half has a rival now.
        self.assertEqual(court.timer(0, other.claimed()), 0)

    def test_a_half_of_several_edges_below_the_claims(self):
        court = court_of(3)
        late, later = false_row(3, 7), false_row(3, 8)
        self.claimed(court, TRUE, late, later)
        for level in (3, 2):
            for own in (TRUE, late, later):
                edge = own.edge(level, 0 if level == 3 else 1)
                self.takes(court, 0, own.halve(0, edge))
        shared = TRUE.edge(1, 2)
        for own in (TRUE, late, later):
            self.assertEqual(court.halves(0, own.edge(2, 1))[0], shared)
        self.assertIs(court.has_rival(0, shared), False)
        for own in (TRUE, late, later):
            self.assertIs(court.has_rival(0, own.edge(2, 1)), True)

    def test_prefixes_by_own_reckoning(self):
        court = court_of(3)
        self.claimed(court, TRUE, LATE)
        self.halved(court, 6, TRUE, LATE)
        first = reckoning.fold(61, 5, TRUE.root(2, 0))
        second = reckoning.fold(61, first, TRUE.root(0, 4))
        step = TRUE.edge(0, 5)
        self.assertEqual(step, (0, 5, second, TRUE.row[4], TRUE.row[5]))
        self.assertIn(step, court.edges(0))
        self.assertIn(LATE.edge(0, 5), court.edges(0))
        self.assertIs(court.has_rival(0, step), True)
        self.assertEqual(LATE.edge(0, 5)[:4], step[:4])

    def test_on_each_way_down_at_most_one_edge_counts(self):
        court = court_of(3, patience=1000)
        rows = (TRUE, LATE, EARLY, false_row(3, 8), twice_false_row(3, 2, 7))
        for player, own in enumerate(rows):
            self.takes(court, player % 3, own.claim(0))
        for step in (6, 2, 8, 7):
            self.halve_all(court, rows, step)
            before = {edge: court.timer(0, edge) for edge in court.edges(0)}
            court.tick()
            for edge in court.edges(0):
                if court.halves(0, edge) is None:
                    self.assertEqual(court.timer(0, edge) - before[edge], 0 if court.has_rival(0, edge) else 1)
                else:
                    self.assertIs(court.has_rival(0, edge), True)
                self.assertLessEqual(court.timer(0, edge) - before[edge], 1)

    def halve_all(self, court, rows, step):
        for level in (3, 2, 1):
            for own in rows:
                edge = own.edge(level, (step - 1) >> level)
                court.receive(0, own.halve(0, edge))


if __name__ == "__main__":
    unittest.main()
