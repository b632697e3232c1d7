import unittest
from random import Random

from everydepth.cells import shade_at
from everydepth.counts import counts
from everydepth.errors import InvalidDepth, InvalidMove
from everydepth.moves import (
    agreement, moved_parting, pairs_at, round_moves, round_pairs, round_unlike_at, unlike_at,
)
from everydepth.alike import parting
from tests.helper import PromiseCase
from tests.model import CARPET, OTHER, STAIRS, chain, renamed, ring, shade_sheet
from tests.model_places import DEPTHS, NO_MOVES, first_unlike_pair, pair_table, pairs_over, some_pictures


def made_cases(seed, many):
    """Pairs of pictures of one base, often of one book or alike, with moves of both signs."""
    random = Random(seed)
    pictures = some_pictures(seed, many)
    for one in pictures:
        base = one[0][0]
        others = [picture for picture in pictures if picture[0][0] == base]
        others += [one, renamed(one), (one[0], random.randrange(len(one[0][1])))]
        side = base ** (DEPTHS[base] - 1)
        moves = [(0, 0), (random.randrange(-2, 3), random.randrange(-2, 3)),
                 (random.randrange(-side, side + 1), random.randrange(-side, side + 1)), (0, base), (-1, 0)]
        yield one, random.choice(others), moves


class MovesTest(PromiseCase):
    def test_examples(self):
        self.assertEqual(
            [pairs_at(CARPET, CARPET, 1, (0, 1)), round_pairs(CARPET, CARPET, 1, (0, 1))[1],
             agreement(CARPET, CARPET, 1, (0, 3)), unlike_at(CARPET, CARPET, 1, (0, 1))],
            [((0, 1, 0, 0), (1, 4, 0, 0), (0, 0, 0, 0), (0, 0, 0, 0)), (1, 7, 0, 0), 0, (1, 0)])
        self.assertEqual(
            [moved_parting(CARPET, CARPET, (0, 1)), moved_parting((CARPET[0], 1), (CARPET[0], 1), (5, 7)),
             round_moves(CARPET, 1)],
            [(1, 1, 0), None, [(0, 0)]])

    def test_cells_one_by_one(self):
        found = set()
        for one, other, moves in made_cases(111, 40):
            for move in moves:
                parted = None
                for depth in range(DEPTHS[one[0][0]]):
                    pairs = pairs_over(one, other, depth, move, False)
                    table = pair_table(pairs)
                    first = first_unlike_pair(pairs)
                    self.assertEqual(pairs_at(one, other, depth, move), table)
                    self.assertEqual(agreement(one, other, depth, move), sum(table[s][s] for s in range(4)))
                    self.assertEqual(unlike_at(one, other, depth, move), first)
                    turned_pairs = pairs_over(one, other, depth, move, True)
                    self.assertEqual(round_pairs(one, other, depth, move), pair_table(turned_pairs))
                    self.assertEqual(round_unlike_at(one, other, depth, move), first_unlike_pair(turned_pairs))
                    if parted is None and first is not None:
                        parted = (depth, *first)
                told = moved_parting(one, other, move)
                if parted:
                    self.assertEqual(told, parted)
                else:
                    self.assertTrue(told is None or told[0] >= DEPTHS[one[0][0]])
                found.add(told and told[0])
        self.assertTrue({None, 0, 1, 2, 3} <= found)

    def test_moves_beyond_the_sheet(self):
        nothing = ((0,) * 4,) * 4
        for move in [(4, 0), (0, -4), (-4, 4), (5, 1), (10 ** 119, 0), (0, -10 ** 119)]:
            self.assertEqual(pairs_at(STAIRS, OTHER, 2, move), nothing)
            self.assertEqual(agreement(STAIRS, OTHER, 2, move), 0)
            self.assertIsNone(unlike_at(STAIRS, OTHER, 2, move))
            # Round, only what is left of it modulo the side counts.
            left = (move[0] % 4, move[1] % 4)
            self.assertEqual(round_pairs(STAIRS, OTHER, 2, move), round_pairs(STAIRS, OTHER, 2, left))
            self.assertEqual(round_unlike_at(STAIRS, OTHER, 2, move), round_unlike_at(STAIRS, OTHER, 2, left))
        self.assertEqual(sum(map(sum, pairs_at(STAIRS, OTHER, 2, (3, -3)))), 1)

    def test_depth_0(self):
        for move in [(0, 0), (1, 0), (0, -1), (-7, 10 ** 50)]:
            self.assertEqual(round_pairs(STAIRS, CARPET_LIKE, 0, move)[1][0], 1)
            self.assertEqual(round_unlike_at(STAIRS, CARPET_LIKE, 0, move), (0, 0))
            self.assertIsNone(round_unlike_at(STAIRS, OTHER, 0, move))
            here = move == (0, 0)
            self.assertEqual(sum(map(sum, pairs_at(STAIRS, CARPET_LIKE, 0, move))), int(here))
            self.assertEqual(unlike_at(STAIRS, CARPET_LIKE, 0, move), (0, 0) if here else None)
        self.assertEqual(round_moves(STAIRS, 0), [(0, 0)])

    def test_depths_of_90(self):
        random = Random(2)
        for one, other, moves in made_cases(112, 16):
            side = one[0][0] ** 90
            for move in [moves[1], (random.randrange(-side, side), random.randrange(-side, side)), (side - 1, 1 - side)]:
                table = pairs_at(one, other, 90, move)
                many = (side - abs(move[0])) * (side - abs(move[1]))
                self.assertEqual(sum(map(sum, table)), many)
                self.assertEqual(agreement(one, other, 90, move), sum(table[s][s] for s in range(4)))
                told = unlike_at(one, other, 90, move)
                self.assertEqual(told is None, agreement(one, other, 90, move) == many)
                if told:
                    row, column = told
                    self.assertNotEqual(shade_at(one, 90, row, column),
                                        shade_at(other, 90, row + move[0], column + move[1]))
                around = round_pairs(one, other, 90, move)
                self.assertEqual(tuple(map(sum, around)), counts(one, 90))
                self.assertEqual(tuple(map(sum, zip(*around))), counts(other, 90))
                self.assertEqual(around, round_pairs(one, other, 90, (move[0] + side, move[1] - 5 * side)))

    def test_no_move_is_parting(self):
        for one, other, _ in made_cases(113, 30):
            self.assertEqual(moved_parting(one, other, (0, 0)), parting(one, other))

    def test_far_moves(self):
        # The one cell of shade 1 at depth 62 lies over another one by a move alone that leads there.
        late, blank = chain(2, 63, (1, 0)), ring(2, [0])
        row = 2 ** 62 - 1
        self.assertEqual(unlike_at(late, late, 62, (-row, 5)), (row, 0))
        self.assertEqual(unlike_at(blank, late, 62, (row, -5)), (0, 5))
        self.assertEqual(moved_parting(late, blank, (0, 0)), (62, row, 0))
        self.assertEqual(moved_parting(late, blank, (-row, 0)), (62, row, 0))
        self.assertIsNone(moved_parting(late, blank, (1, 0)))
        self.assertIsNone(moved_parting(late, blank, (0, -1)))
        # A move of 120 figures: ahead of depth 399 no row lies over another one.
        move = (10 ** 119, -10 ** 119)
        depth = (10 ** 119).bit_length()
        whole, board = ring(2, [1]), ((2, (1, 0), (((0, 1), (1, 0)), ((0, 1), (1, 0)))), 0)
        self.assertEqual(moved_parting(whole, blank, move), (depth, 0, 10 ** 119))
        self.assertIsNone(moved_parting(whole, whole, move))
        self.assertEqual(moved_parting(board, board, (10 ** 119 + 1, 0)), (depth, 0, 0))
        self.assertIsNone(moved_parting(board, board, (10 ** 119, -10 ** 119)))

    def test_moves_that_leave_a_board(self):
        # From depth 1 on each cell has another shade than its neighbours, at depth 0 there is one cell.
        board = ((2, (1, 0), (((0, 1), (1, 0)), ((0, 1), (1, 0)))), 0)
        for move in [(1, 1), (2, 0), (-3, 5), (0, -4)]:
            self.assertIsNone(moved_parting(board, board, move))
        for move in [(1, 0), (0, -1), (2, 3)]:
            self.assertEqual(moved_parting(board, board, move)[0], max(map(abs, move)).bit_length())
        self.assertEqual(round_moves(board, 2), [(a, b) for a in range(4) for b in range(4) if (a + b) % 2 == 0])


class RoundMovesTest(PromiseCase):
    def test_each_move(self):
        found = set()
        for picture in some_pictures(114, 40) + [ring(2, [1, 0]), STAIRS, CARPET]:
            for depth in range({2: 4, 3: 3, 4: 2}[picture[0][0]]):
                rows = shade_sheet(picture, depth)
                side = len(rows)
                wanted = [
                    (a, b) for a in range(side) for b in range(side)
                    if all(rows[r][b:] + rows[r][:b] == rows[r - a] for r in range(side))]
                told = round_moves(picture, depth)
                self.assertEqual(told, wanted)
                for move in told:
                    self.assertIsNone(round_unlike_at(picture, picture, depth, move))
                # Fact V2.
                self.assertEqual(side * side % len(told), 0)
                self.assertTrue({((a + c) % side, (b + d) % side) for a, b in told[:9] for c, d in told} <= set(told))
                found.add(len(told))
        self.assertTrue({1, 4, 16, 64} <= found)

    def test_sides_of_27(self):
        self.assertEqual(round_moves(CARPET, 3), [(0, 0)])
        self.assertEqual(round_moves(ring(3, [2]), 3), [(a, b) for a in range(27) for b in range(27)])
        # Stripes of three rows each; and stripes that lean.
        stripes = ((3, (0, 1, 2), (((0, 0, 0), (1, 1, 1), (2, 2, 2)),) * 3), 0)
        self.assertEqual(round_moves(stripes, 3), [(a, b) for a in range(0, 27, 3) for b in range(27)])
        leaning = ((3, (0, 1, 2), (((0, 1, 2), (1, 2, 0), (2, 0, 1)),) * 3), 0)
        self.assertEqual(round_moves(leaning, 3), [(a, b) for a in range(27) for b in range(27) if (a + b) % 3 == 0])

    def test_lists_are_new(self):
        self.all_new(round_moves, CARPET, 2)


class WrongArgumentsTest(PromiseCase):
    def test_pictures_and_depths(self):
        for function in (pairs_at, round_pairs, agreement, unlike_at, round_unlike_at):
            self.pairs_refused(function, -1, None)
            self.refused(InvalidDepth, -1, function, STAIRS, OTHER, -1, None)
        self.pairs_refused(moved_parting, None)
        self.pictures_refused(round_moves, -1)
        self.refused(InvalidDepth, -10 ** 30, round_moves, STAIRS, -10 ** 30)

    def test_moves(self):
        for move in NO_MOVES:
            for function in (pairs_at, round_pairs, agreement, unlike_at, round_unlike_at):
                self.refused(InvalidMove, move, function, STAIRS, OTHER, 2, move)
            self.refused(InvalidMove, move, moved_parting, STAIRS, OTHER, move)


CARPET_LIKE = ((2, (0, 1), (((0, 1), (1, 1)), ((1, 1), (1, 1)))), 0)


if __name__ == "__main__":
    unittest.main()
