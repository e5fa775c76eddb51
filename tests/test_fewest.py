"""Points 12 and 13: the fewest beats of a piece, and the papers that show them."""

import random
import unittest
from itertools import permutations, product

from slow import random_mill
from slow_pieces import random_paper, random_piece, slow_kept, slow_least, slow_shows

from lateboxes.errors import TooMany
from lateboxes.fewest import least, shows
from lateboxes.pieces import kept

PLAINLY = (0, 0, 0, 0)
REST = ("rest",)
MOST = (2, 4, 4, 3)
FREE = tuple(("put", box, 5) for box in range(6))


def ordered(many):
    """A paper that puts so many rows in all orders, one way for each order."""
    def behind(order, left):
        if not left:
            return ("way", order)
        at = left[0]
        paper = behind(order + (at,), left[1:])
        for place in range(len(order) - 1, -1, -1):
            paper = ("split", order[place], at, paper,
                     behind(order[:place] + (at,) + order[place:], left[1:]))
        return paper
    return behind((), tuple(range(many)))


class Least(unittest.TestCase):
    def least(self, piece, mill):
        """The beats that least tells, its starts and paper having been tried."""
        told = least(piece, mill)
        self.assertEqual([type(part) for part in told], [int, list, tuple])
        beats, starts, paper = told
        self.assertEqual({type(beat) for beat in starts}, {int})
        self.assertEqual(kept(piece, mill, starts), beats)
        self.assertEqual(slow_kept(piece, mill, starts), beats)
        self.assertIs(shows(piece, mill, beats, paper), True)
        self.assertIs(shows(piece, mill, beats + 1, paper), False)
        self.assertTrue(slow_shows(piece, mill, beats, paper))
        return beats

    def test_one_row(self):
        for mill in (PLAINLY, MOST, (1, 2, 3, 1)):
            self.assertEqual(self.least((REST,), mill), 1)
            self.assertEqual(self.least((("say", 0),), mill), 1)
            self.assertEqual(self.least((("stop",),), mill), 1)
            self.assertEqual(self.least((("put", 0, 1),), mill), mill[0] + 1)
            self.assertEqual(self.least((("get", 0, 0),), mill), mill[1] + 1)
            self.assertEqual(self.least((("times", 0, 0, 0),), mill), mill[2] + 1)
            self.assertEqual(self.least((("go", 199),), mill), mill[3] + 1)
            self.assertEqual(self.least((("if", 0, 0),), mill), mill[3] + 1)

    def test_rows_without_ties(self):
        for many in range(1, 7):
            self.assertEqual(self.least((REST,) * many, MOST), many)
            self.assertEqual(self.least(FREE[:many], PLAINLY), many)
            self.assertEqual(self.least(FREE[:many], (2, 0, 0, 0)), many + 2)

    def test_a_row_of_rows(self):
        piece = tuple(("get", box + 1, box) for box in range(6))
        self.assertEqual(self.least(piece, (0, 4, 0, 0)), 30)
        self.assertEqual(self.least((("get", 0, 0),) * 6, (0, 4, 0, 0)), 30)
        self.assertEqual(self.least((("say", 0),) * 6, MOST), 6)

    def test_another_order_is_better(self):
        # The get begins first, and the puts while its worth is under way.
        piece = (("put", 0, 1), ("put", 1, 1), ("get", 2, 3), ("say", 2))
        self.assertEqual(self.least(piece, (0, 2, 0, 0)), 4)
        self.assertEqual(self.least(piece, (0, 3, 0, 0)), 5)
        self.assertEqual(self.least(piece, (1, 3, 0, 0)), 5)

    def test_rows_behind_a_jump(self):
        piece = (("put", 0, 1), ("say", 1), ("set", 2, 3), ("go", 5))
        for jump in range(4):
            self.assertEqual(self.least(piece, (0, 0, 0, jump)), 4)
        self.assertEqual(self.least(piece[1:], (0, 0, 0, 3)), 4)
        self.assertEqual(self.least(piece[1:], (0, 0, 0, 2)), 3)

    def test_the_jump_waits_for_rows_behind_it(self):
        # Five rows fit behind no going: some are ahead of it.
        piece = FREE[:5] + (("go", 5),)
        for jump in range(4):
            self.assertEqual(self.least(piece, (0, 0, 0, jump)), 6)
        # A put that comes 2 late may begin no later than one beat behind the go.
        self.assertEqual(self.least(piece, (2, 0, 0, 3)), 8)
        self.assertEqual(self.least(piece, (1, 0, 0, 3)), 7)

    def test_with_a_stop_last(self):
        self.assertEqual(self.least((("get", 0, 1), ("say", 2), ("stop",)), MOST), 3)
        self.assertEqual(self.least((("get", 0, 1), ("say", 0), ("stop",)), MOST), 7)
        self.assertEqual(self.least(FREE[:5] + (("stop",),), MOST), 6)

    def test_six_rows_and_seven(self):
        least((REST,) * 6, PLAINLY)
        for many in range(7, 13):
            for last in (REST, ("stop",), ("go", 0)):
                with self.assertRaises(TooMany):
                    least((REST,) * (many - 1) + (last,), PLAINLY)

    def test_all_orders_of_drawn_pieces(self):
        chance = random.Random(14)
        kinds = {"way": 0, "split": 0}
        for at in range(700):
            piece = random_piece(chance, 1, 6 if at % 5 == 0 else 5)
            mill = random_mill(chance)
            self.assertEqual(self.least(piece, mill), slow_least(piece, mill), (piece, mill))
            kinds[least(piece, mill)[2][0]] += 1
        self.assertGreater(min(kinds.values()), 100)

    def test_all_starts_of_small_pieces(self):
        chance = random.Random(15)
        for _ in range(60):
            piece = random_piece(chance, 1, 3)
            mill = random_mill(chance)
            told = [kept(piece, mill, list(starts))
                    for starts in product(range(11), repeat=len(piece))]
            fewest = min(beats for beats in told if beats is not None)
            self.assertEqual(self.least(piece, mill), fewest, (piece, mill))


class Ways(unittest.TestCase):
    def most(self, piece, mill, paper):
        """The greatest number from 0 to 60 that a paper shows, or None."""
        told = [shows(piece, mill, many, paper) for many in range(61)]
        self.assertEqual({type(one) for one in told}, {bool})
        self.assertEqual(told, sorted(told, reverse=True))
        return told.count(True) - 1 if True in told else None

    def test_one_row(self):
        piece = (("put", 0, 1), ("get", 1, 7), ("times", 2, 7, 7), ("say", 7), REST)
        mill = (2, 3, 4, 1)
        for at, beats in enumerate((3, 4, 5, 1, 1)):
            self.assertEqual(self.most(piece, mill, ("way", (at,))), beats)

    def test_ties_come_to_so_many(self):
        piece = (("get", 0, 7), ("add", 1, 0, 0), ("times", 2, 1, 1), ("say", 2), ("say", 7))
        mill = (1, 2, 3, 0)
        for rows, beats in (((0, 1), 3 + 1 + 1), ((0, 1, 2), 3 + 2 + 3 + 1),
                            ((0, 1, 2, 3), 3 + 2 + 4 + 1), ((0, 1, 2, 3, 4), 11),
                            ((1, 2), 2 + 3 + 1), ((3, 4), 2), ((4,), 1), ((2, 3), 5)):
            self.assertEqual(self.most(piece, mill, ("way", rows)), beats, rows)

    def test_rows_that_are_not_tied(self):
        piece = (("get", 0, 7), ("add", 1, 0, 0), ("times", 2, 1, 1), ("say", 2), ("say", 7))
        for rows in ((0, 2), (1, 0), (0, 1, 3), (0, 1, 2, 4), (3, 2), (0, 0), (0, 1, 0),
                     (0, 1, 1), (2, 2, 3), (4, 3)):
            self.assertIsNone(self.most(piece, (1, 2, 3, 0), ("way", rows)), rows)

    def test_with_a_go_or_an_if_last(self):
        for row in (("go", 3), ("if", 7, 3)):
            piece = (("get", 0, 6), ("say", 0), row)
            for jump in range(4):
                mill = (0, 4, 0, jump)
                self.assertEqual(self.most(piece, mill, ("way", (2,))), jump + 1)
                self.assertEqual(self.most(piece, mill, ("way", (0,))), 5)
                self.assertEqual(self.most(piece, mill, ("way", (0, 1))), 6)
                self.assertEqual(self.most(piece, mill, ("way", (0, 2))), 4 - jump + jump + 1)
                self.assertEqual(self.most(piece, mill, ("way", (1, 2))), 1)
                self.assertEqual(self.most(piece, mill, ("way", (0, 1, 2))), 5 - jump + jump + 1)

    def test_with_a_stop_last(self):
        piece = (("get", 0, 6), ("say", 0), ("stop",))
        self.assertEqual(self.most(piece, MOST, ("way", (0,))), 1)
        self.assertEqual(self.most(piece, MOST, ("way", (0, 1))), 6)
        self.assertEqual(self.most(piece, MOST, ("way", (0, 1, 2))), 7)
        self.assertEqual(self.most(piece, MOST, ("way", (0, 2))), 2)
        self.assertEqual(self.most(piece, MOST, ("way", (2,))), 1)

    def test_from_0_to_60(self):
        piece = (("get", 0, 0),) * 12
        way = ("way", tuple(range(12)))
        self.assertTrue(shows(piece, MOST, 60, way))
        self.assertFalse(shows(piece, MOST, 61, way))
        self.assertFalse(shows(piece, (2, 3, 4, 3), 60, way))
        self.assertTrue(shows(piece, MOST, 0, ("way", (11,))))
        self.assertFalse(shows(piece, MOST, 60, ("way", tuple(range(11)))))

    def test_a_sum_below_0(self):
        piece = (("say", 0), ("get", 1, 7), ("go", 3))
        mill = (0, 0, 0, 3)
        self.assertEqual(self.most(piece, mill, ("way", (0, 2))), 1)
        self.assertEqual(self.most(piece, mill, ("way", (0,))), 1)
        # Round by the go and back again, the way is 2 shorter than it was.
        again = ("split", 2, 0, ("way", (0, 2, 0)), ("ring", (0, 2, 0)))
        self.assertFalse(shows(piece, mill, 0, again))
        self.assertFalse(shows(piece, mill, 0, again[:4] + (("way", (0,)),)))
        again = ("split", 2, 0, ("way", (0, 2, 0, 2)), ("way", (0,)))
        self.assertEqual(self.most(piece, mill, again), None)
        mill = (0, 0, 0, 2)
        again = ("split", 2, 0, ("way", (0, 2, 0)), ("way", (0,)))
        self.assertEqual(self.most(piece, mill, again), 0)

    def test_the_number_alone_is_shown(self):
        for many in range(4):
            self.assertEqual(shows(FREE[:3], PLAINLY, many, ordered(3)), many <= 3)


class Rings(unittest.TestCase):
    def test_what_the_ties_come_to(self):
        # By the tie of the piece row 1 begins no earlier than far beats behind row 0.
        for late in range(5):
            for jump in range(4):
                mill = (0, late, 0, jump)
                piece = (("get", 0, 7), ("go", 3))
                paper = ("split", 0, 1, ("way", (0,)), ("ring", (0, 1, 0)))
                self.assertEqual(shows(piece, mill, 1, paper), late - jump + 1 >= 1)
                paper = ("split", 0, 1, ("way", (0,)), ("ring", (1, 0, 1)))
                self.assertEqual(shows(piece, mill, 1, paper), late - jump + 1 >= 1)

    def test_a_ring_shows_any_number(self):
        piece = (("say", 0), ("say", 1))
        half = ("split", 1, 0, ("ring", (0, 1, 0)), ("way", (0, 1)))
        self.assertTrue(shows(piece, PLAINLY, 2, half))
        self.assertFalse(shows(piece, PLAINLY, 3, half))
        both = ("split", 1, 0, ("ring", (0, 1, 0)), ("ring", (0, 1, 0)))
        for many in (0, 2, 60):
            self.assertFalse(shows(piece, PLAINLY, many, both))
        # Where two splits put two rows both ways, any number is shown.
        inner = ("split", 0, 1, ("ring", (1, 0, 1)), ("way", (0, 1)))
        for many in (0, 2, 60):
            self.assertEqual(shows(piece, PLAINLY, many, ("split", 1, 0, inner, inner)), False)
            self.assertTrue(shows(FREE[:2], PLAINLY, many,
                                  ("split", 0, 1, ("split", 1, 0, ("ring", (0, 1, 0)),
                                                   ("way", (0,))),
                                   ("way", (1, 0)))) == (many <= 1))

    def test_a_ring_alone(self):
        piece = (("say", 0), ("say", 1), ("say", 2))
        for rows in ((0, 1), (0, 1, 2), (0, 1, 0), (0, 0), (0,), (1, 2, 0, 1), (2, 2, 2)):
            for many in (0, 1, 60):
                self.assertFalse(shows(piece, PLAINLY, many, ("ring", rows)), rows)

    def test_the_last_one_is_the_first_one(self):
        piece = (("say", 0), ("say", 1), ("say", 2))
        way = ("way", (0, 1, 2))
        for rows, told in (((0, 2, 0), True), ((2, 0, 2), True), ((0, 1, 2, 0), True),
                           ((1, 2, 0, 1), True), ((2, 0, 1, 2), True), ((2, 0), False),
                           ((2, 0, 1), False), ((0, 1, 2), False), ((0, 2, 0, 1), False),
                           ((0, 2, 0, 2, 0), True), ((0,), False), ((0, 1, 0), False)):
            paper = ("split", 2, 0, ("ring", rows), way)
            self.assertEqual(shows(piece, PLAINLY, 3, paper), told, rows)


class Splits(unittest.TestCase):
    def test_both_papers_count(self):
        good, bad = ("way", (0, 1)), ("way", (1, 0))
        self.assertTrue(shows(FREE[:2], PLAINLY, 2, ("split", 0, 1, good, bad)))
        self.assertTrue(shows(FREE[:2], PLAINLY, 2, ("split", 1, 0, bad, good)))
        for first, second in ((good, good), (bad, bad), (bad, good)):
            self.assertFalse(shows(FREE[:2], PLAINLY, 0, ("split", 0, 1, first, second)))
            self.assertFalse(shows(FREE[:2], PLAINLY, 0, ("split", 1, 0, second, first)))

    def test_a_tie_more_of_1(self):
        paper = ("split", 0, 1, ("way", (0, 1)), ("way", (1, 0)))
        self.assertTrue(shows(FREE[:2], (2, 0, 0, 0), 4, paper))
        self.assertFalse(shows(FREE[:2], (2, 0, 0, 0), 5, paper))

    def test_the_tie_that_was_there_counts_if_it_is_greater(self):
        piece = (("get", 0, 1), ("say", 0))
        mill = (0, 4, 0, 0)
        paper = ("split", 0, 1, ("way", (0, 1)), ("ring", (0, 1, 0)))
        self.assertTrue(shows(piece, mill, 6, paper))
        self.assertFalse(shows(piece, mill, 7, paper))
        piece = (("say", 0), ("go", 3))
        paper = ("split", 0, 1, ("way", (0, 1)), ("way", (1,)))
        for jump in range(4):
            # The tie of 1 is greater than the one of less jump.
            self.assertTrue(shows(piece, (0, 0, 0, jump), jump + 1, paper))
            self.assertFalse(shows(piece, (0, 0, 0, jump), jump + 2, paper))
            ahead = ("split", 0, 1, ("way", (0, 1)), ("way", (1, 0)))
            self.assertTrue(shows(piece, (0, 0, 0, jump), 2, ahead))
            self.assertFalse(shows(piece, (0, 0, 0, jump), 3, ahead))

    def test_a_tie_more_counts_in_its_own_paper_alone(self):
        inner = ("split", 1, 2, ("way", (0, 1, 2)), ("way", (0, 2)))
        self.assertFalse(shows(FREE[:3], PLAINLY, 1, ("split", 0, 1, inner, ("way", (0,)))))
        inner = ("split", 1, 2, ("way", (0, 1, 2)), ("way", (2, 1)))
        self.assertTrue(shows(FREE[:3], PLAINLY, 2, ("split", 0, 1, inner, ("way", (1, 0)))))
        self.assertFalse(shows(FREE[:3], PLAINLY, 3, ("split", 0, 1, inner, ("way", (1, 0)))))
        self.assertFalse(shows(FREE[:3], PLAINLY, 1, ("split", 0, 1, inner, inner)))
        self.assertFalse(shows(FREE[:3], PLAINLY, 1, ("split", 0, 1, ("way", (0, 1)),
                                                      ("way", (0, 1)))))
        self.assertFalse(shows(FREE[:3], PLAINLY, 1, ("split", 0, 1, inner, ("way", (2, 1)))))

    def test_the_same_rows_split_again(self):
        again = ("split", 0, 1, ("way", (0, 1)), ("ring", (0, 1, 0)))
        self.assertTrue(shows(FREE[:2], PLAINLY, 2, ("split", 0, 1, again, ("way", (1, 0)))))
        self.assertFalse(shows(FREE[:2], PLAINLY, 3, ("split", 0, 1, again, ("way", (1, 0)))))

    def test_all_orders(self):
        for many in range(1, 6):
            paper = ordered(many)
            for late in range(3):
                mill = (late, 0, 0, 0)
                self.assertTrue(shows(FREE[:many], mill, many + late, paper))
                self.assertFalse(shows(FREE[:many], mill, many + late + 1, paper))

    def test_forty_within_one_another(self):
        for kind in (0, 1):
            for leaf in (("way", (0, 1)), ("way", (0,)), ("ring", (0, 1, 0))):
                paper = leaf
                for _ in range(39):
                    other = ("way", (1, 0)) if kind == 0 else ("way", (0,))
                    paper = ("split", 0, 1, paper, other)
                for many in (0, 1, 2, 3):
                    expected = slow_shows(FREE[:2], PLAINLY, many, paper)
                    self.assertEqual(shows(FREE[:2], PLAINLY, many, paper), expected)
        paper = ("split", 0, 1, ("way", (0, 1)), ("way", (1, 0)))
        for _ in range(39):
            paper = ("split", 0, 1, ("way", (0, 1)), paper)
        self.assertTrue(shows(FREE[:2], PLAINLY, 2, paper))
        self.assertFalse(shows(FREE[:2], PLAINLY, 3, paper))
        self.assertFalse(shows(FREE[:2], PLAINLY, 2, paper[:4] + (("way", (0, 1)),)))


class OtherPapers(unittest.TestCase):
    def shows_nothing(self, paper, piece=FREE[:3]):
        for many in (0, 1, 60):
            self.assertIs(shows(piece, MOST, many, paper), False, paper)
            # Nor does it within a split.
            for whole in (("split", 0, 1, paper, ("way", (1, 0))),
                          ("split", 0, 1, ("way", (0, 1)), paper)):
                self.assertIs(shows(piece, MOST, many, whole), False, whole)

    def test_those_of_no_kind(self):
        for paper in ((), ("way",), ("ring",), ("split",), ("rest",), ("",), (0,), ((),),
                      ("rest", (0,)), ("", (0,)), (0, (0,)), ((), (0,)), ("Way", (0,)),
                      (("way", (0,)),), ("way", ("way", (0,))), ("way", "ring"), ("way ", (0,)),
                      (("way",), (0,)), ("split", (0,)), ("ways", (0,))):
            self.shows_nothing(paper)

    def test_those_of_another_kind_that_would_show_it_as_a_known_one(self):
        good = ordered(3)
        self.assertTrue(shows(FREE[:3], PLAINLY, 3, good))
        for word in ("Split", "splits", "", "way", "ring", "rest", "slit", 0, ("split",)):
            self.shows_nothing((word,) + good[1:])
        piece = (("say", 0), ("say", 1))
        for word in ("ring", "wing", "Ring", "", "rest", "rings", 0, ("ring",)):
            paper = ("split", 1, 0, (word, (0, 1, 0)), ("way", (0, 1)))
            self.assertEqual(shows(piece, PLAINLY, 2, paper), word == "ring")
        for word in ("way", "Way", "", "ways", "rest", "set", 0, ("way",)):
            self.assertEqual(shows(piece, PLAINLY, 2, (word, (0, 1))), word == "way")

    def test_papers_within_papers_may_be_no_tuples(self):
        for part in ("", "way", "split", "0", 0, 1, -1, 60):
            self.assertFalse(shows(FREE[:2], PLAINLY, 0, ("split", 0, 1, part, ("way", (0,)))))
            self.assertFalse(shows(FREE[:2], PLAINLY, 0, ("split", 0, 1, ("way", (0,)), part)))
            self.assertFalse(shows(FREE[:2], PLAINLY, 0, ("way", part)))
            self.assertFalse(shows(FREE[:2], PLAINLY, 0, ("ring", part)))

    def test_too_little_and_too_much(self):
        way = ("way", (0,))
        for paper in (("way", (0,), ()), ("way", (0,), 0), ("way", 0), ("way", 0, 1),
                      ("ring", (0, 0), 0), ("split", 0, 1, way), ("split", 0, 1),
                      ("split", 0, 1, way, way, way), ("split", (0, 1), way, way),
                      ("split", 0, way, way), ("split", 0, 1, way, ())):
            self.shows_nothing(paper)

    def test_no_rows(self):
        self.shows_nothing(("way", ()))
        self.shows_nothing(("ring", ()))

    def test_rows_that_are_not_the_pieces(self):
        for at in (-1, 3, 4, 12, -3, 10 ** 30, "0", "", (), (0,), True):
            for rows in ((at,), (0, at), (at, 0), (at, at)):
                self.shows_nothing(("way", rows))
                self.shows_nothing(("ring", rows + (rows[0],)))
            way = ("way", (0,))
            for other in (0, 1, 2):
                self.shows_nothing(("split", at, other, way, way))
                self.shows_nothing(("split", other, at, way, way))

    def test_each_row_of_the_piece_may_stand_there(self):
        for many in (1, 2, 12):
            piece = (("say", 0),) * many
            for at in range(many):
                self.assertTrue(shows(piece, PLAINLY, 1, ("way", (at,))))
            self.assertFalse(shows(piece, PLAINLY, 1, ("way", (many,))))
            if many > 1:
                paper = ("split", many - 1, 0, ("way", (many - 1, 0)), ("way", (0, many - 1)))
                self.assertTrue(shows(piece, PLAINLY, 2, paper))

    def test_rows_told_twice(self):
        way = ("way", (0,))
        for at in range(3):
            self.shows_nothing(("split", at, at, way, way))
            self.shows_nothing(("way", (at, at)))
            self.shows_nothing(("ring", (at, at)))
        self.shows_nothing(("way", (0, 1, 0)))
        self.shows_nothing(("way", (0, 0, 1)), (("say", 0), ("say", 1)))

    def test_a_paper_that_would_show_it_with_one_that_does_not(self):
        good = ordered(3)
        self.assertTrue(shows(FREE[:3], PLAINLY, 3, good))
        for place in (3, 4):
            for other in ((), "way", ("way", (0,)), ("ring", (0, 1, 0)), 7):
                paper = good[:place] + (other,) + good[place + 1:]
                self.assertFalse(shows(FREE[:3], PLAINLY, 3, paper))


class Drawn(unittest.TestCase):
    def test_drawn_papers(self):
        chance = random.Random(16)
        shown = 0
        for at in range(4000):
            piece = random_piece(chance, 2, 3 if at % 2 else 12)
            mill = random_mill(chance)
            paper = random_paper(chance, len(piece), 3)
            many = chance.choice([0, 1, 2, 3, 4, 60])
            told = shows(piece, mill, many, paper)
            self.assertEqual(told, slow_shows(piece, mill, many, paper), (piece, mill, paper))
            shown += told
        self.assertGreater(shown, 200)

    def test_papers_of_the_fewest_by_other_mills(self):
        chance = random.Random(19)
        shown = {True: 0, False: 0}
        for _ in range(800):
            piece = random_piece(chance, 3, 6)
            beats, _, paper = least(piece, random_mill(chance))
            mill = random_mill(chance)
            for many in (beats - 2, beats - 1, beats, beats + 1):
                told = shows(piece, mill, many, paper)
                self.assertEqual(told, slow_shows(piece, mill, many, paper), (piece, mill, paper))
                shown[told] += 1
        self.assertGreater(min(shown.values()), 500)

    def test_no_paper_shows_more_than_the_fewest(self):
        chance = random.Random(17)
        met = 0
        for _ in range(400):
            piece = random_piece(chance, 2, 4)
            mill = random_mill(chance)
            beats = slow_least(piece, mill)
            papers = [("way", rows) for many in range(1, 5)
                      for rows in permutations(range(len(piece)), many)]
            papers += [random_paper(chance, len(piece), 3) for _ in range(20)]
            for paper in papers:
                self.assertFalse(shows(piece, mill, beats + 1, paper), (piece, mill, paper))
                met += shows(piece, mill, beats, paper)
        self.assertGreater(met, 200)

    def test_a_paper_of_another_piece_or_mill_shows_no_more_than_the_fewest(self):
        chance = random.Random(18)
        shown = 0
        for _ in range(600):
            many = chance.randint(2, 5)
            paper = least(random_piece(chance, many, many), random_mill(chance))[2]
            piece, mill = random_piece(chance, many, many), random_mill(chance)
            beats = slow_least(piece, mill)
            self.assertFalse(shows(piece, mill, beats + 1, paper), (piece, mill, paper))
            shown += shows(piece, mill, beats, paper)
        self.assertGreater(shown, 20)


if __name__ == "__main__":
    unittest.main()
