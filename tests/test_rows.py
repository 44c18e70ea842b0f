"""[8]: rows that are thinned, Trade and Open."""

from copy import deepcopy
from itertools import combinations_with_replacement, product
from random import Random
from unittest import TestCase, main

from feeblind.errors import BadMeasure, BadName, TakenName
from feeblind.measures import Measure
from feeblind.rows import Open, Trade, covers, thin_open, thin_rows
from tests.oracles import ODD, bent, covering, thinned, thinned_open
from tests.samples import open_values, some_open_rows, some_rows, trade_values


class ThinRows(TestCase):
    def test_no_rows(self):
        self.assertIsNone(thin_rows([]))

    def test_one_row(self):
        self.assertEqual(thin_rows([(3, 1)]), ((3, 1),))

    def test_equal_rows_stand_once(self):
        self.assertEqual(thin_rows([(3, 1), (3, 1), (3, 1)]), ((3, 1),))

    def test_rows_that_tie_at_some_positions(self):
        self.assertEqual(thin_rows([(3, 1), (3, 2)]), ((3, 1),))
        self.assertEqual(thin_rows([(3, 1), (2, 1)]), ((2, 1),))
        self.assertEqual(thin_rows([(1, 2, 3), (1, 3, 2), (1, 3, 3)]), ((1, 2, 3), (1, 3, 2)))

    def test_ascending_in_the_order_of_numbers(self):
        self.assertEqual(thin_rows([(10, 1), (9, 2), (2, 10)]), ((2, 10), (9, 2), (10, 1)))

    def test_a_row_far_ahead_of_the_one_that_it_thins(self):
        self.assertEqual(thin_rows([(0, 5, 5), (1, 0, 9), (2, 6, 6)]), ((0, 5, 5), (1, 0, 9)))

    def test_all_lots_of_small_rows(self):
        rows = list(product(range(3), repeat=2))
        for many in range(1, 4):
            for lot in combinations_with_replacement(rows, many):
                self.assertEqual(thin_rows(list(lot)[::-1]), thinned(lot))

    def test_many_rows(self):
        random = Random(1)
        for length in (1, 2, 3, 4, 5):
            for _ in range(60):
                rows = some_rows(random, length, 6, random.randint(0, 25))
                self.assertEqual(thin_rows(rows), thinned(rows))

    def test_what_is_passed_is_unchanged_and_may_be_a_tuple(self):
        rows = [(2, 2), (1, 1), (3, 0)]
        self.assertEqual(thin_rows(rows), thin_rows(tuple(rows)))
        self.assertEqual(thin_rows(rows=rows), ((1, 1), (3, 0)))
        self.assertEqual(rows, [(2, 2), (1, 1), (3, 0)])

    def test_kind(self):
        self.assertIs(type(thin_rows([(1, 1)])), tuple)


class Covers(TestCase):
    def test_itself(self):
        for row in [(0, ()), (3, ("a",)), (3, ("a", "a", "b"))]:
            self.assertIs(covers(row, row), True)

    def test_prices(self):
        told = [covers((price, ("a",)), (3, ("a",))) for price in (2, 3, 4)]
        self.assertEqual(told, [True, True, False])

    def test_lots(self):
        self.assertIs(covers((3, ()), (3, ("a",))), True)
        self.assertIs(covers((3, ("a",)), (3, ())), False)
        self.assertIs(covers((3, ("b",)), (3, ("a", "b"))), True)
        self.assertIs(covers((3, ("b",)), (3, ("a", "c"))), False)

    def test_names_that_come_twice(self):
        self.assertIs(covers((3, ("a",)), (3, ("a", "a"))), True)
        self.assertIs(covers((3, ("a", "a")), (3, ("a",))), False)
        self.assertIs(covers((3, ("a", "a")), (3, ("a", "b"))), False)
        self.assertIs(covers((3, ("a", "a")), (3, ("a", "a", "b"))), True)

    def test_all_small_rows(self):
        lots = [lot for many in range(4) for lot in combinations_with_replacement("abc", many)]
        for one, other in product(product((0, 1), lots), repeat=2):
            self.assertIs(covers(one, other), covering(one, other))

    def test_by_name(self):
        self.assertIs(covers(other=(3, ("a",)), one=(2, ())), True)


class ThinOpen(TestCase):
    def test_no_rows(self):
        self.assertIsNone(thin_open([]))

    def test_one_row(self):
        self.assertEqual(thin_open([(3, ("a",))]), ((3, ("a",)),))

    def test_lots_are_put_in_order(self):
        self.assertEqual(thin_open([(3, ("c", "a", "b", "a"))]), ((3, ("a", "a", "b", "c")),))

    def test_equal_rows_stand_once_also_in_another_order(self):
        self.assertEqual(thin_open([(3, ("b", "a")), (3, ("a", "b")), (3, ("b", "a"))]), ((3, ("a", "b")),))

    def test_equal_prices(self):
        self.assertEqual(thin_open([(3, ("b",)), (3, ("a", "b"))]), ((3, ("b",)),))
        self.assertEqual(thin_open([(3, ("a", "b")), (3, ("c",))]), ((3, ("a", "b")), (3, ("c",))))

    def test_a_name_twice(self):
        self.assertEqual(thin_open([(2, ("a", "a")), (3, ("a",))]), ((2, ("a", "a")), (3, ("a",))))
        self.assertEqual(thin_open([(3, ("a", "a")), (3, ("a",))]), ((3, ("a",)),))

    def test_ascending(self):
        rows = [(10, ()), (9, ("b",)), (2, ("c", "c")), (9, ("a",))]
        self.assertEqual(thin_open(rows), ((2, ("c", "c")), (9, ("a",)), (9, ("b",)), (10, ())))

    def test_many_rows(self):
        random = Random(2)
        for _ in range(300):
            rows = some_open_rows(random, random.randint(0, 12))
            self.assertEqual(thin_open(rows), thinned_open(rows))

    def test_what_is_passed_is_unchanged_and_may_be_a_tuple(self):
        rows = [(3, ("b", "a")), (1, ("b",)), (0, ("c", "a"))]
        before = deepcopy(rows)
        self.assertEqual(thin_open(rows), thin_open(rows=tuple(rows)))
        self.assertEqual(rows, before)


class OfTrade(TestCase):
    def wrong(self, wishes):
        with self.assertRaises((BadMeasure, BadName, TakenName)) as caught:
            Trade(*wishes)
        return caught.exception

    def test_many(self):
        for wishes in ([], ["a"], ["a", "b", "c", "d", "e"], [3], ["a"] * 5, [None] * 6):
            error = self.wrong(wishes)
            self.assertEqual((error.code, error.what), ("BadMeasure", "many"))
        for wishes in ("ab", "abc", "abcd"):
            self.assertEqual(Trade(*wishes).wishes(), list(wishes))

    def test_wrong_names(self):
        for value in ODD:
            if value not in ("a", "car", "abcdefgh"):
                for wishes in (["x", value], [value, "x"], [value, value], ["x", "x", value, "A"]):
                    error = self.wrong(wishes)
                    self.assertEqual(error.code, "BadName")
                    self.assertIs(error.value, value)

    def test_first_wrong_name_counts(self):
        self.assertEqual(self.wrong(["a", "B", 3, "c"]).value, "B")

    def test_taken_names(self):
        for wishes, name in ((["a", "a"], "a"), (["a", "b", "b", "a"], "b"), (["a", "b", "a", "b"], "a"), ("xyzy", "y")):
            error = self.wrong(wishes)
            self.assertEqual((error.code, error.name), ("TakenName", name))

    def test_wishes_are_told_new(self):
        trade = Trade("cost", "time")
        trade.wishes().append("x")
        self.assertEqual(trade.wishes(), ["cost", "time"])
        self.assertIs(type(trade.wishes()), list)

    def test_stay(self):
        self.assertEqual([Trade(*"ab").stay, Trade(*"abcd").stay], [((0, 0),), ((0, 0, 0, 0),)])

    def test_best(self):
        trade = Trade("cost", "time")
        self.assertEqual(trade.best(((1, 4), (3, 2)), ((2, 2), (4, 1))), ((1, 4), (2, 2), (4, 1)))

    def test_then(self):
        trade = Trade("cost", "time")
        self.assertEqual(trade.then(((1, 4), (3, 2)), ((0, 2), (1, 0))), ((1, 6), (2, 4), (4, 2)))
        self.assertEqual(trade.then(((1, 4), (2, 3)), ((1, 1), (2, 0))), ((2, 5), (3, 4), (4, 3)))

    def test_best_and_then_against_the_plain_way(self):
        for length in (2, 3, 4):
            trade = Trade(*"abcd"[:length])
            for one, other in product(trade_values(length), repeat=2):
                sums = [tuple(map(sum, zip(row, more))) for row in one for more in other]
                self.assertEqual(trade.best(one, other), thinned(one + other))
                self.assertEqual(trade.then(one, other), thinned(sums))

    def test_values(self):
        trade = Trade("cost", "time")
        for value in (((0, 0),), ((1, 4), (3, 2)), ((1000001, 0),), ((0, 2), (1, 1), (2, 0))):
            self.assertIs(trade.is_value(value), True)

    def test_no_values(self):
        trade = Trade("cost", "time")
        for value in [
            (), ((),), (0, 0), ((3, 2), (1, 4)), ((1, 4), (1, 4)), ((1, 4), (2, 4)), ((1, 4), (1, 5)), ((1, 4), (3, 5)),
            ((1,),), ((1, 2, 3),), ((1, 4), (3,)), ((1, 4), (3, 2, 1)), ((1,), (2, 3)), [(1, 4)], ([1, 4],),
            ((1, 4), [3, 2]), ((True, 4),), ((1, False),), ((1, -1),), ((1, "4"),), ((1, None),), ((1, (4,)),), "ab", ("ab",),
        ]:
            self.assertIs(trade.is_value(value), False, value)

    def test_values_with_one_part_bent(self):
        for length in (2, 3, 4):
            trade = Trade(*"abcd"[:length])
            for value in trade_values(length):
                self.assertIs(trade.is_value(value), True)
                for worse in bent(value):
                    self.assertIs(trade.is_value(worse), False, worse)

    def test_values_of_other_orders_and_lengths(self):
        for value in trade_values(3):
            if len(value) > 1:
                self.assertIs(Trade(*"abc").is_value(value[::-1]), False)
            self.assertIs(Trade(*"ab").is_value(value), False)
            self.assertIs(Trade(*"abcd").is_value(value), False)

    def test_equal(self):
        self.assertEqual(Trade("a", "b"), Trade("a", "b"))
        for other in (Trade("b", "a"), Trade("a", "b", "c"), Trade("a", "c"), Open("a"), ["a", "b"]):
            self.assertIs(Trade("a", "b") == other, False)

    def test_repr(self):
        self.assertEqual(repr(Trade("cost", "time")), "Trade(cost, time)")
        self.assertEqual(repr(Trade(*"abcd")), "Trade(a, b, c, d)")


class OfOpen(TestCase):
    def test_wrong_wish(self):
        for value in ODD:
            if value not in ("a", "car", "abcdefgh"):
                with self.assertRaises(BadName) as caught:
                    Open(value)
                self.assertIs(caught.exception.value, value)

    def test_wish_and_stay(self):
        self.assertEqual((Open(wish="cost").wish, Open("cost").stay), ("cost", ((0, ()),)))

    def test_best(self):
        one, other = ((1, ("b",)), (5, ())), ((1, ("a", "b")), (4, ("a",)))
        self.assertEqual(Open("cost").best(one, other), ((1, ("b",)), (4, ("a",)), (5, ())))

    def test_then_joins_lots_in_order(self):
        told = Open("cost").then(((1, ("b",)), (5, ())), ((2, ("a", "b")), (4, ())))
        self.assertEqual(told, ((3, ("a", "b", "b")), (5, ("b",)), (9, ())))

    def test_then_with_equal_lots(self):
        self.assertEqual(Open("cost").then(((1, ("a",)),), ((2, ("a",)),)), ((3, ("a", "a")),))

    def test_best_and_then_against_the_plain_way(self):
        measure = Open("cost")
        for one, other in product(open_values(), repeat=2):
            sums = [(price + more, lot + others) for price, lot in one for more, others in other]
            self.assertEqual(measure.best(one, other), thinned_open(one + other))
            self.assertEqual(measure.then(one, other), thinned_open(sums))

    def test_values(self):
        for value in [
            ((0, ()),), ((3, ("a",)),), ((3, ("a", "a")),), ((2, ("a", "a")), (3, ("a",))), ((1, ("abcdefgh",)), (2, ())),
            ((3, ("a", "b")), (3, ("c",))),
        ]:
            self.assertIs(Open("cost").is_value(value), True, value)

    def test_no_values(self):
        for value in [
            (), ((),), (0, ()), ((3, ()), (2, ("a",))), ((3, ()), (3, ())), ((2, ("b",)), (2, ("a", "b"))), ((2, ()), (3, ())),
            ((3, ("b", "a")),), ((3, ["a"]),), ([3, ("a",)],), [(3, ("a",))], ((3, "a"),), ((3, ("A",)),), ((3, ("",)),),
            ((3, ("abcdefghi",)),), ((True, ()),), ((False, ()),), ((-1, ()),), ((3,),), ((3, (), ()),), ((3, (1,)),),
            ((3, (None,)),), ((3, None),), ((None, ()),), (("a", 3),), ((3, ("a", 1)),), ((3, (("a",),)),), "ab", ("ab",),
            ((3, ("a", "a")), (3, ("a",))), ((2, ("a",)), (3, ("a", "a"))),
        ]:
            self.assertIs(Open("cost").is_value(value), False, value)

    def test_values_with_one_part_bent(self):
        for value in open_values():
            self.assertIs(Open("cost").is_value(value), True)
            for worse in bent(value):
                self.assertIs(Open("cost").is_value(worse), False, worse)
            if len(value) > 1:
                self.assertIs(Open("cost").is_value(value[::-1]), False)

    def test_equal(self):
        self.assertEqual(Open("a"), Open("a"))
        for other in (Open("b"), Trade("a", "b"), "Open(a)"):
            self.assertIs(Open("a") == other, False)

    def test_repr(self):
        self.assertEqual(repr(Open("cost")), "Open(cost)")

    def test_bases(self):
        self.assertEqual((Open.__bases__, Trade.__bases__), ((Measure,), (Measure,)))


if __name__ == "__main__":
    main()
