import itertools
import unittest

from judged import Counted, rows_of
from needleblind.errors import BadNumber
from needleblind.house import house_piece, ring_piece
from needleblind.judging import judge_piece
from needleblind.pieces import Piece
from needleblind.ranks import like_rank
from support import raised, sources

HIDDEN_SUM = "piece refresh 2\ncoin r\ncoin p\nx = a0 xor p\ns = x xor r\ny = a1 xor p\nu = y xor r\nout s u\n"


def listed(counted, parts, other, coins, lot, without):
    """The row of coins of like rank, by a listing of all rows of coins, or None."""
    reading = dict(zip(rows_of(len(counted.coins)), counted.readings(lot, parts, without)))
    like = [row for row in rows_of(len(counted.coins)) if reading[row] == reading[coins]]
    others = [row for row, found in zip(rows_of(len(counted.coins)), counted.readings(lot, other, without))
              if found == reading[coins]]
    rank = like.index(coins)
    return others[rank] if rank < len(others) else None


class LikeRank(unittest.TestCase):
    # Pieces that were judged, with their counts, by what they were made of.
    made = {}

    def check(self, taken, counted, parts, other, coins, lot, without):
        expected = listed(counted, parts, other, coins, lot, without)
        if expected is None:
            error = raised(self, BadNumber, like_rank, taken, parts, other, coins, lot=lot, without=without)
            self.assertIs(error.value, without)
        else:
            told = like_rank(taken, parts, other, coins, lot=lot, without=without)
            self.assertEqual((told, type(told)), (expected, tuple))
        return expected is not None

    def everything(self, text, t):
        """All rows, lots and numbers of a small piece."""
        taken, counted = judge_piece(Piece(text), t=t), Counted(text)
        self.assertTrue(taken.is_taken())
        there = {}
        for lot in counted.lots(t):
            for parts, other in itertools.product(counted.parts, repeat=2):
                for coins in rows_of(len(counted.coins)):
                    for without in range(counted.n):
                        there[self.check(taken, counted, parts, other, coins, lot, without)] = True
        return set(there)

    def test_small_pieces(self):
        self.assertEqual(self.everything(house_piece("refresh", 2).text(), 1), {True, False})
        self.assertEqual(self.everything(HIDDEN_SUM, 1), {True, False})
        self.assertIn(True, self.everything(house_piece("product", 2).text(), 1))
        self.assertEqual(self.everything(house_piece("refresh", 2).text(), 2), {True, False})

    def test_greater_pieces(self):
        for source in sources(60):
            name, n, t = source.choice((("refresh", 3, 2), ("refresh", 4, 1), ("product", 3, 1), ("ring", 4, 1),
                                        ("ring", 5, 1), ("refresh", 4, 3)))
            piece = ring_piece(n) if name == "ring" else house_piece(name, n)
            key = name, n, t
            if key not in self.made:
                self.made[key] = judge_piece(piece, t=t), Counted(piece.text())
            taken, counted = self.made[key]
            for _ in range(10):
                lot = source.choice(counted.lots(t))
                parts, other = source.choice(counted.parts), source.choice(counted.parts)
                coins = source.choice(rows_of(len(counted.coins)))
                self.check(taken, counted, parts, other, coins, lot, source.randrange(n))

    def test_like_ranks_are_there_for_good_numbers(self):
        # What judging is for: without a number that is not bad, and with parts turned there, there is always one.
        for piece in (house_piece("refresh", 3), house_piece("product", 3), ring_piece(4)):
            taken, counted = judge_piece(piece), Counted(piece.text())
            for source in sources(40):
                lot = source.choice(counted.lots(1))
                bad = counted.bad(lot)
                parts = source.choice(counted.parts)
                item = source.choice([item for item in counted.items() if item not in bad])
                places, without = counted.places(item)
                other = list(parts)
                for at in places:
                    other[at] = source.randrange(2)
                coins = source.choice(rows_of(len(counted.coins)))
                there = like_rank(taken, parts, tuple(other), coins, lot=lot, without=without)
                back = like_rank(taken, tuple(other), parts, there, lot=lot, without=without)
                self.assertEqual(back, coins)
                if tuple(other) == parts:
                    self.assertEqual(there, coins)

    def test_house_product_with_4_parts(self):
        taken = judge_piece(house_piece("product", 4))
        parts, other = (1, 0, 1, 1, 0, 1, 1, 1), (1, 0, 0, 1, 0, 1, 1, 1)
        # [37]: a look at p01 and the outs without number 2.
        told = like_rank(taken, parts, other, (1, 1, 0, 1, 0, 0), lot=("p01",), without=2)
        self.assertEqual(told, (1, 1, 0, 1, 0, 1))
        told = like_rank(taken=taken, parts=list(parts), other=list(other), coins=[1, 1, 0, 1, 0, 0], lot=["p01"],
                         without=2)
        self.assertEqual(told, (1, 1, 0, 1, 0, 1))

    def test_what_is_passed_stays(self):
        taken = judge_piece(house_piece("refresh", 2))
        parts, other, coins, lot = [0, 1], [1, 1], [1], ["r01"]
        self.assertEqual(like_rank(taken, parts, other, coins, lot=lot, without=0), (1,))
        self.assertEqual((parts, other, coins, lot), ([0, 1], [1, 1], [1], ["r01"]))


if __name__ == "__main__":
    unittest.main()
