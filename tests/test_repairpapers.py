"""Promise [69]: papers of repairs."""

import random
import unittest

from centsatonce.clashes import all_clashes, some_clash
from centsatonce.repairpapers import RepairPaper, StuckPaper, is_repair_paper, is_stuck_paper, repair_paper
from centsatonce.tables import Table
from tests.helpers import NAMES, OTHERS, Rude, Yes, odd_objects, odd_values, raised, swapped_objects
from tests.test_repairs import TABLE, TABLES, plain_price, random_prices, repairs_of
from tests.test_spoils import ring_table

NESTED = Table(("a", "b", "c"), ((0,), (0, 1), (0, 1, 2)))
PRICES = ((5, 4, 5), (6, None, 7))
DENIAL = ((0, 1, 2), (0, 1, 2), (None,) * 6)
SIZE = ("Refused", {"word": "size"})


def is_plain_denial(table, prices, clashes, left, staying, number, denial):
    """Whether a well formed denial is right, by the words of the promise."""
    kinds, totals, more = denial
    items = [("kind", kind) for kind in kinds] + [("total", total) for total in totals]
    if (kinds, totals) not in clashes or not set(items) <= left or len(more) != len(items):
        return False
    for at, (item, behind) in enumerate(zip(items, more)):
        price = prices[0][item[1]] if item[0] == "kind" else prices[1][item[1]]
        stays = price is None or item in staying | set(items[:at])
        if stays or price > number:
            if behind is not None:
                return False
        elif behind is None or not is_plain_denial(table, prices, clashes, left - {item}, staying | set(items[:at]),
                                                   number - price, behind):
            return False
    return True


def is_plain_paper(table, prices, paper):
    """Whether a well formed RepairPaper is right."""
    part = (paper.kinds, paper.totals)
    price = plain_price(prices, part)
    if part not in repairs_of(table) or price is None:
        return False
    if price == 0 or paper.denial is None:
        return price == 0 and paper.denial is None
    whole = {("kind", kind) for kind in range(len(table.kinds))} | {("total", total) for total in range(len(table.totals))}
    return is_plain_denial(table, prices, all_clashes(table), whole, set(), price - 1, paper.denial)


def mutated(rng, denial):
    """A denial with something else at some place, well formed."""
    kinds, totals, more = denial
    at = rng.randrange(len(more)) if more else 0
    choice = rng.randrange(5)
    if choice == 0 and more and more[at] is not None:
        return (kinds, totals, more[:at] + (mutated(rng, more[at]),) + more[at + 1:])
    if choice == 1 and more:
        return (kinds, totals, more[:at] + (None if more[at] is not None else denial,) + more[at + 1:])
    if choice == 2:
        return (kinds, totals, more[:-1])
    if choice == 3:
        return (kinds[1:], totals, more)
    return (kinds, totals, more + (None,))


class Papers(unittest.TestCase):

    def test_one_of_both(self):
        rng = random.Random(1)
        seen = {"repair": 0, "stuck": 0, "free": 0}
        for table in TABLES:
            for _ in range(3):
                prices = random_prices(rng, table)
                right = [plain_price(prices, part) for part in repairs_of(table)]
                right = [price for price in right if price is not None]
                paper = repair_paper(table, prices)
                self.assertIs(is_repair_paper(table, prices, paper), bool(right))
                self.assertIs(is_stuck_paper(table, prices, paper), not right)
                if right:
                    self.assertIsInstance(paper, RepairPaper)
                    self.assertEqual(plain_price(prices, (paper.kinds, paper.totals)), min(right))
                    self.assertTrue(is_plain_paper(table, prices, paper))
                    seen["repair" if min(right) else "free"] += 1
                else:
                    self.assertIsInstance(paper, StuckPaper)
                    self.assertIn((paper.kinds, paper.totals), all_clashes(table))
                    self.assertEqual(set(prices[0][kind] for kind in paper.kinds) | set(
                        prices[1][total] for total in paper.totals), {None})
                    seen["stuck"] += 1
        self.assertGreater(min(seen.values()), 15, seen)

    def test_changed_papers(self):
        rng = random.Random(2)
        seen = {True: 0, False: 0}
        for table in TABLES:
            prices = random_prices(rng, table)
            paper = repair_paper(table, prices)
            if not isinstance(paper, RepairPaper) or paper.denial is None:
                continue
            for _ in range(12):
                other = RepairPaper(paper.kinds, paper.totals, mutated(rng, paper.denial))
                right = is_plain_paper(table, prices, other)
                self.assertIs(is_repair_paper(table, prices, other), right)
                seen[right] += 1
            # For other prices the same paper is most often none.
            others = random_prices(rng, table)
            self.assertIs(is_repair_paper(table, others, paper), is_plain_paper(table, others, paper))
            # No dearer repair has a right paper, whatever its denial is.
            for part in repairs_of(table):
                dearer = RepairPaper(part[0], part[1], paper.denial)
                right = is_plain_paper(table, prices, dearer)
                self.assertIs(is_repair_paper(table, prices, dearer), right)
                if right:
                    self.assertEqual(plain_price(prices, part), plain_price(prices, (paper.kinds, paper.totals)))
        self.assertGreater(seen[False], 200)

    def test_examples(self):
        paper = RepairPaper(denial=DENIAL, totals=(), kinds=(1,))
        self.assertIs(is_repair_paper(NESTED, PRICES, paper), True)
        self.assertIs(is_repair_paper(value=RepairPaper((0,), (), DENIAL), prices=PRICES, table=NESTED), False)
        self.assertIs(is_repair_paper(NESTED, ((4, 4, 5), (6, None, 7)), RepairPaper((0,), (), DENIAL)), True)
        # Of price 5, a denial of 4 has to deny what is left behind each price of 4 at most.
        self.assertIs(is_repair_paper(NESTED, ((5, 4, 5), (6, None, 7)), RepairPaper((2,), (), DENIAL)), False)
        stuck = StuckPaper(totals=(0, 1, 2), kinds=(0, 1, 2))
        self.assertIs(is_stuck_paper(value=stuck, prices=((None,) * 3, (None,) * 3), table=NESTED), True)
        self.assertIs(is_stuck_paper(NESTED, ((None,) * 3, (None, None, 1)), stuck), False)
        self.assertIs(is_stuck_paper(NESTED, PRICES, paper), False)
        self.assertIs(is_repair_paper(NESTED, PRICES, stuck), False)
        self.assertEqual((paper.kinds, paper.totals, paper.denial, stuck.kinds, stuck.totals),
                         ((1,), (), DENIAL, (0, 1, 2), (0, 1, 2)))
        free = repair_paper(prices=((1, 1), (1,)), table=Table(("a", "b"), ((0, 1),)))
        self.assertEqual((free.kinds, free.totals, free.denial), ((), (), None))
        self.assertIs(is_repair_paper(Table(("a", "b"), ((0, 1),)), ((1, 1), (1,)), RepairPaper((), (), DENIAL)), False)
        self.assertIs(is_repair_paper(NESTED, PRICES, RepairPaper((), (), None)), False)

    def test_staying_further_within(self):
        # Two rings that share nothing: one thing of each has to go.
        table = Table(NAMES[:6], ((0, 1), (1, 2), (0, 2), (3, 4), (4, 5), (3, 5)))
        prices = ((1, None, None, 1, None, None), (None,) * 6)
        one, other = ((0, 1, 2), (0, 1, 2)), ((3, 4, 5), (3, 4, 5))
        inner = other + ((None,) * 6,)
        self.assertIs(is_repair_paper(table, prices, RepairPaper((0, 3), (), one + ((inner,) + (None,) * 5,))), True)
        self.assertIs(is_repair_paper(table, prices, RepairPaper((0, 3), (), one + ((None,) * 6,))), False)
        two = ((1, 1, None, 1, None, None), (None,) * 6)
        right = one + ((inner, inner) + (None,) * 4,)
        self.assertIs(is_repair_paper(table, two, RepairPaper((0, 3), (), right)), True)
        self.assertIs(is_repair_paper(table, two, RepairPaper((1, 3), (), right)), True)
        three = ((2, 1, None, 2, None, None), (None,) * 6)
        paper = repair_paper(table, three)
        self.assertEqual((paper.kinds, paper.totals), ((1, 3), ()))
        # Behind a price of 1 nothing of a price of 1 is left to be denied.
        for inside, right in (((None,) * 6, True), ((inner,) + (None,) * 5, False)):
            denial = other + ((one + (inside,),) + (None,) * 5,)
            dear = ((1, 1, None, 1, None, None), (None,) * 6)
            self.assertIs(is_repair_paper(table, dear, RepairPaper((0, 3), (), denial)), right)

    def test_clashes_that_are_none_or_are_not_left(self):
        prices = ((5, None, 5, 5), (None,) * 3)
        for denial, right in ((((0, 1, 2), (0, 1, 2), (None,) * 6), True), (((0, 1, 3), (0, 1, 2), (None,) * 6), True),
                              (((0, 1, 2, 3), (0, 1, 2), (None,) * 7), False), (((0, 2, 3), (0, 1, 2), (None,) * 6), False),
                              (((0, 1), (0, 1, 2), (None,) * 5), False)):
            self.assertIs(is_repair_paper(TABLE, prices, RepairPaper((0,), (), denial)), right)
        table = Table(NAMES[:6], ((0, 1), (1, 2), (0, 2), (3, 4), (4, 5), (3, 5)))
        prices = ((1, None, None, 1, None, None), (None,) * 6)
        one, other = ((0, 1, 2), (0, 1, 2)), ((3, 4, 5), (3, 4, 5))
        for inner, right in ((other, True), (one, False)):
            denial = one + ((inner + ((None,) * 6,),) + (None,) * 5,)
            self.assertIs(is_repair_paper(table, prices, RepairPaper((0, 3), (), denial)), right)

    def test_what_came_before_stays_within(self):
        nested = Table(NAMES[:5], tuple(tuple(range(many)) for many in range(1, 6)))
        prices = ((1,) * 5, (None,) * 5)
        paper = repair_paper(nested, prices)
        self.assertEqual(len(paper.kinds), 3)
        self.assertTrue(is_plain_paper(nested, prices, paper))
        self.assertIs(is_repair_paper(nested, prices, paper), True)
        # With the first two kinds staying and the third one taken out, these two are not denied further within.
        free = ((0, 1, 3), (0, 1, 3), (None,) * 6)
        for place in range(3):
            kinds, totals, more = paper.denial
            within = more[2][2]
            spoilt = within[:place] + (free if within[place] is None else None,) + within[place + 1:]
            denial = (kinds, totals, more[:2] + (more[2][:2] + (spoilt,),) + more[3:])
            changed = RepairPaper(paper.kinds, paper.totals, denial)
            self.assertIs(is_repair_paper(nested, prices, changed), False)
            self.assertFalse(is_plain_paper(nested, prices, changed))
        inner = paper.denial[2][2]
        self.assertEqual([one is None for one in inner[2][:3]], [kind in paper.denial[0][:2] for kind in inner[0]])
        self.assertIn(None, inner[2][:3])
        # The least kind, which is denied first, is met again where it must stay.
        self.assertEqual(paper.denial[0], (0, 1, 2))
        leaf = (None,) * 6
        ends = [((0, 3, 4), (0, 3, 4), leaf), ((0, 2, 4), (0, 2, 4), leaf)]
        for first, right in ((None, True), (((2, 3, 4), (2, 3, 4), leaf), False)):
            inner = ((0, 2, 3), (0, 2, 3), (first, ends[0], ends[1], None, None, None))
            more = paper.denial[2]
            changed = RepairPaper(paper.kinds, paper.totals, paper.denial[:2] + (more[:1] + (inner,) + more[2:],))
            self.assertIs(is_repair_paper(nested, prices, changed), right)
            self.assertIs(is_plain_paper(nested, prices, changed), right)

    def test_twelve_prices(self):
        nested = Table(NAMES, tuple(tuple(range(many)) for many in range(1, 13)))
        for prices, expected in ((((1,) * 12, (None,) * 12), None), (((1,) * 12, (1,) + (None,) * 11), SIZE),
                                 (((None,) * 12, (1,) * 12), None), (((1,) * 6 + (None,) * 6, (1,) * 7 + (None,) * 5), SIZE)):
            self.assertEqual(raised(repair_paper, nested, prices), expected)
        paper = repair_paper(nested, ((3, 1, 4, 1, 5, 9, 2, 6, 5, 3, 5, 8), (None,) * 12))
        self.assertIs(is_repair_paper(nested, ((3, 1, 4, 1, 5, 9, 2, 6, 5, 3, 5, 8), (None,) * 12), paper), True)
        # A paper may be judged for more prices, too.
        self.assertIs(is_repair_paper(ring_table(11), ((1,) * 11, (1,) * 11), RepairPaper((4,), (), some_clash(ring_table(11)) + (
            (None,) * 22,))), True)


class AnyValue(unittest.TestCase):

    def test_other_values(self):
        stuck = ((None,) * 3, (None,) * 3)
        for value in odd_values() + odd_objects(RepairPaper, 3) + odd_objects(StuckPaper, 2):
            self.assertIs(is_repair_paper(NESTED, PRICES, value), False)
            self.assertIs(is_stuck_paper(NESTED, stuck, value), False)
            self.assertIs(is_repair_paper(NESTED, PRICES, RepairPaper((1,), (), value)), False)
            self.assertIs(is_repair_paper(NESTED, PRICES, RepairPaper(value, (), DENIAL)), False)
            self.assertIs(is_repair_paper(NESTED, PRICES, RepairPaper((1,), value, DENIAL)), False)
            self.assertIs(is_stuck_paper(NESTED, stuck, StuckPaper(value, (0, 1, 2))), False)
            self.assertIs(is_stuck_paper(NESTED, stuck, StuckPaper((0, 1, 2), value)), False)

    def test_spoilt_at_any_place(self):
        prices = ((2, 1, 2), (None, None, None))
        paper = repair_paper(NESTED, ((2, 2, 2), (None,) * 3))
        self.assertIs(is_repair_paper(NESTED, prices, RepairPaper((1,), (), DENIAL)), True)
        for other in OTHERS:
            if other is None:
                continue
            for value in swapped_objects(RepairPaper, ((1,), (), DENIAL), other):
                right = isinstance(value.totals, tuple) and isinstance(other, tuple) and value.totals == () and \
                    value.kinds == (1,) and value.denial == DENIAL
                self.assertIs(is_repair_paper(NESTED, prices, value), right)
            for value in swapped_objects(StuckPaper, ((0, 1, 2), (0, 1, 2)), other):
                self.assertIs(is_stuck_paper(NESTED, ((None,) * 3, (None,) * 3), value), False)
        self.assertIs(is_repair_paper(NESTED, ((2, 2, 2), (None,) * 3), paper), True)
        deep = repair_paper(TABLE, ((1, None, 1, 1), (None, 1, None)))
        self.assertIs(is_repair_paper(TABLE, ((1, None, 1, 1), (None, 1, None)), deep), True)
        two = Table(NAMES[:6], ((0, 1), (1, 2), (0, 2), (3, 4), (4, 5), (3, 5)))
        prices = ((1, None, None, 1, None, None), (None,) * 6)
        within = repair_paper(two, prices)
        for other in (True, False, 1.0, "1", [], {}, -1, 9, (), (0,), Rude(), Yes()):
            for value in swapped_objects(RepairPaper, (within.kinds, within.totals, within.denial), other):
                same = value.kinds is within.kinds and value.denial is within.denial
                if not same:
                    self.assertIs(is_repair_paper(two, prices, value), False)


if __name__ == "__main__":
    unittest.main()
