import copy
import itertools
import unittest

from partsmet import tables
from partsmet.errors import InvalidNumber, InvalidTable
from partsmet.tables import (
    all_lists,
    has_differences,
    has_single_lists,
    is_distributive,
    is_table,
    meet,
    needed,
    table_difference,
    table_parts,
    two_differences,
    two_lists,
)
from tests.oracle import Told
from tests.samples import (
    BIG_TABLES,
    CHAIN,
    CUBE,
    DIAMOND,
    GEMS,
    ODD_VALUES,
    PENTAGON,
    POINT,
    SPANS,
    SQUARE,
    TWO,
    as_tuples,
    check_call,
    check_refused,
    same,
    small_tables,
)

SMALL = small_tables(4)
ALL = SMALL + [DIAMOND, PENTAGON] + BIG_TABLES
OF_TABLE = [table_parts, has_single_lists, two_lists, is_distributive, has_differences, two_differences]
OF_NUMBER = [needed, all_lists]
OF_TWO = [meet, table_difference]


def changed(table, one, other, value):
    """The table with another value at one place."""
    rows = copy.deepcopy(table)
    rows[one][other] = value
    return rows


NO_TABLES = ODD_VALUES + [
    [],
    (),
    [[]],
    [[1]],
    [[-1]],
    [[False]],
    [[None]],
    ["0"],
    [b"\x00"],
    {0: [0]},
    [{0: 0}],
    [[[0]]],
    [0],
    0,
    [[0, True], [1, 1]],
    [[0, 1], [1, True]],
    [[False, 1], [1, 1]],
    [[0, 1], [1]],
    [[0, 1]],
    [[0, 1], [1, 1], [1, 1]],
    [[0, 1, 1], [1, 1, 1]],
    [[0, 1], [1, 2]],
    [[0, 1], [1, -1]],
    [[0, 1], [1, 10**29]],
    [[0, 1], None],
    # not idempotent
    [[0, 1], [1, 0]],
    [[1, 1], [1, 1]],
    changed(SQUARE, 2, 2, 3),
    # not symmetric
    [[0, 1, 2], [1, 1, 2], [2, 1, 2]],
    changed(SQUARE, 1, 2, 2),
    changed(SQUARE, 3, 0, 0),
    # 0 is not the least state
    [[0, 0], [0, 1]],
    changed(changed(SQUARE, 0, 1, 3), 1, 0, 3),
    # not associative: 1 and 2 join to 3, 3 and 1 to 1
    [[0, 1, 2, 3], [1, 1, 3, 1], [2, 3, 2, 3], [3, 1, 3, 3]],
    [[0, 1, 2, 3], [1, 1, 2, 1], [2, 2, 2, 3], [3, 1, 3, 3]],
    # nine states
    [[max(one, other) for other in range(9)] for one in range(9)],
]


class Judged(unittest.TestCase):
    def test_tables(self):
        for table in ALL:
            check_call(self, True, is_table, value=table)
            check_call(self, True, is_table, value=as_tuples(table))
            check_call(self, True, is_table, value=tuple(table))

    def test_no_tables(self):
        for value in NO_TABLES + [as_tuples(value) for value in NO_TABLES if isinstance(value, list)]:
            check_call(self, False, is_table, value=value)

    def test_small_squares(self):
        """Of all squares of three states just those that are joins with the least state 0."""
        tables_of_three = [table for table in SMALL if len(table) == 3]
        for row in itertools.product(range(3), repeat=9):
            square = [list(row[:3]), list(row[3:6]), list(row[6:])]
            self.assertIs(is_table(square), square in tables_of_three, square)

    def test_one_wrong_number(self):
        """A table with another COUNT at one place is not symmetric, not idempotent or has not 0 as the least."""
        for table in (SQUARE, DIAMOND, CUBE):
            for one, other in itertools.product(range(len(table)), repeat=2):
                for value in range(-1, len(table) + 1):
                    self.assertIs(is_table(changed(table, one, other, value)), value == table[one][other])

    def test_bools_within(self):
        for one, other in itertools.product(range(2), repeat=2):
            self.assertFalse(is_table(changed(TWO, one, other, bool(TWO[one][other]))))


class Definitions(unittest.TestCase):
    """Each answer against the definitions, tried by brute force."""

    def test_parts_and_lists(self):
        for table in ALL:
            told = Told(("table", table))
            check_call(self, told.parts, table_parts, table=table)
            lists = [told.lists(number) for number in range(len(table))]
            for number in range(len(table)):
                check_call(self, lists[number], all_lists, table=table, number=number)
            check_call(self, all(len(each) == 1 for each in lists), has_single_lists, table=table)
            many = [number for number, each in enumerate(lists) if len(each) > 1]
            two = (many[0], *lists[many[0]][:2]) if many else None
            check_call(self, two, two_lists, table=table)

    def test_needed(self):
        for table in ALL:
            told = Told(("table", table))
            for number in range(len(table)):
                below = [part for part in told.parts if told.order[part][number]]
                answer = [
                    part for part in told.parts if told.joined([each for each in below if each != part]) != number
                ]
                check_call(self, answer, needed, table=table, number=number)

    def test_needed_parts_stand_in_each_list(self):
        for table in ALL:
            told = Told(("table", table))
            for number in range(len(table)):
                lists, wanted = all_lists(table, number), needed(table, number)
                self.assertTrue(all(set(wanted) <= set(each) for each in lists))
                self.assertEqual(len(lists) == 1, told.joined(wanted) == number)
                if len(lists) == 1:
                    self.assertEqual(lists, [wanted])

    def test_meets(self):
        for table in ALL:
            told = Told(("table", table))
            states = range(len(table))
            for one, other in itertools.product(states, repeat=2):
                both = [each for each in states if told.order[each][one] and told.order[each][other]]
                (answer,) = [each for each in both if all(told.order[low][each] for low in both)]
                check_call(self, answer, meet, table=table, one=one, other=other)

    def test_distributive(self):
        for table in ALL:
            states = range(len(table))
            met = {(a, b): meet(table, a, b) for a in states for b in states}
            answer = all(
                met[a, table[b][c]] == table[met[a, b]][met[a, c]] for a in states for b in states for c in states
            )
            check_call(self, answer, is_distributive, table=table)
            check_call(self, answer, has_differences, table=table)

    def test_differences(self):
        for table in ALL:
            told = Told(("table", table))
            lacking, first = False, None
            for one, other in itertools.product(range(len(table)), repeat=2):
                found = [each for each in range(len(table)) if told.order[one][table[each][other]]]
                least = [each for each in found if all(told.order[each][more] for more in found)]
                bare = [each for each in found if not any(told.order[low][each] and low != each for low in found)]
                check_call(
                    self, least[0] if least else None, table_difference, table=table, one=one, other=other
                )
                self.assertEqual(len(bare) == 1, bool(least))
                if not least and not lacking:
                    lacking, first = True, (one, other, bare[0], bare[1])
            check_call(self, first, two_differences, table=table)

    def test_difference_is_the_join_of_lacked_parts(self):
        for table in [table for table in ALL if is_distributive(table)]:
            told = Told(("table", table))
            self.assertTrue(has_single_lists(table))
            for one, other in itertools.product(range(len(table)), repeat=2):
                lacked = [part for part in told.parts if told.order[part][one] and not told.order[part][other]]
                self.assertEqual(table_difference(table, one, other), told.joined(lacked))


class WorkedOut(unittest.TestCase):
    """Answers worked out by hand."""

    def test_point(self):
        for table in (POINT, ((0,),)):
            check_call(self, [], table_parts, table=table)
            check_call(self, [], needed, table=table, number=0)
            check_call(self, [[]], all_lists, table=table, number=0)
            check_call(self, True, has_single_lists, table=table)
            check_call(self, None, two_lists, table=table)
            check_call(self, 0, meet, table=table, one=0, other=0)
            check_call(self, True, is_distributive, table=table)
            check_call(self, True, has_differences, table=table)
            check_call(self, 0, table_difference, table=table, one=0, other=0)
            check_call(self, None, two_differences, table=table)

    def test_tuples(self):
        told = as_tuples(DIAMOND)
        check_call(self, [1, 2, 3], table_parts, table=told)
        check_call(self, [[1, 2], [1, 3], [2, 3]], all_lists, table=told, number=4)
        check_call(self, (4, [1, 2], [1, 3]), two_lists, table=told)
        check_call(self, (1, 2, 1, 3), two_differences, table=told)
        check_call(self, 0, meet, table=told, one=1, other=3)
        check_call(self, None, table_difference, table=told, one=2, other=3)

    def test_eight_states(self):
        check_call(self, [1, 2, 4], table_parts, table=CUBE)
        check_call(self, [[1, 2, 4]], all_lists, table=CUBE, number=7)
        check_call(self, [1, 4], needed, table=CUBE, number=5)
        check_call(self, 5, table_difference, table=CUBE, one=7, other=2)
        check_call(self, 2, meet, table=CUBE, one=3, other=6)
        check_call(self, [1, 2, 3, 4, 5, 6, 7], table_parts, table=CHAIN)
        check_call(self, [[7]], all_lists, table=CHAIN, number=7)
        check_call(self, 7, table_difference, table=CHAIN, one=7, other=6)
        check_call(self, 0, table_difference, table=CHAIN, one=6, other=7)
        check_call(self, (7, [1, 2], [1, 3]), two_lists, table=GEMS)
        check_call(self, (1, 2, 1, 3), two_differences, table=GEMS)
        check_call(self, None, two_differences, table=CUBE)
        check_call(self, None, two_lists, table=CHAIN)

    def test_pentagon(self):
        check_call(self, [1, 2, 3], table_parts, table=PENTAGON)
        check_call(self, [3], needed, table=PENTAGON, number=4)
        check_call(self, [[1, 3], [2, 3]], all_lists, table=PENTAGON, number=4)
        check_call(self, [[2]], all_lists, table=PENTAGON, number=2)
        check_call(self, (4, [1, 3], [2, 3]), two_lists, table=PENTAGON)
        check_call(self, (2, 1, 2, 3), two_differences, table=PENTAGON)
        check_call(self, False, is_distributive, table=PENTAGON)
        check_call(self, 1, table_difference, table=PENTAGON, one=4, other=3)
        check_call(self, 3, table_difference, table=PENTAGON, one=4, other=1)
        check_call(self, None, table_difference, table=PENTAGON, one=2, other=1)

    def test_single_lists_without_differences(self):
        check_call(self, True, has_single_lists, table=SPANS)
        check_call(self, None, two_lists, table=SPANS)
        check_call(self, False, is_distributive, table=SPANS)
        check_call(self, False, has_differences, table=SPANS)
        self.assertIsNotNone(two_differences(SPANS))

    def test_least_state(self):
        for table in ALL:
            for number in range(len(table)):
                self.assertEqual(meet(table, 0, number), 0)
                self.assertEqual(meet(table, number, number), number)
                self.assertEqual(table_difference(table, 0, number), 0)
                self.assertEqual(table_difference(table, number, number), 0)
                self.assertEqual(table_difference(table, number, 0), number)
            self.assertEqual(all_lists(table, 0), [[]])
            self.assertEqual(needed(table, 0), [])


class Refused(unittest.TestCase):
    def test_tables(self):
        for value in NO_TABLES:
            for function in OF_TABLE:
                check_refused(self, InvalidTable, {"value": value}, function, value)
                check_refused(self, InvalidTable, {"value": value}, function, table=value)

    def test_tables_ahead_of_numbers(self):
        for value in NO_TABLES:
            for number in (0, -1, None):
                for function in OF_NUMBER:
                    check_refused(self, InvalidTable, {"value": value}, function, value, number)
                for function in OF_TWO:
                    check_refused(self, InvalidTable, {"value": value}, function, value, number, number)

    def test_numbers(self):
        for table in (POINT, SQUARE, as_tuples(SQUARE), CUBE):
            for value in ODD_VALUES + [len(table), len(table) + 1, [0], (1,), "0", b"0"]:
                for function in OF_NUMBER:
                    check_refused(self, InvalidNumber, {"value": value}, function, table, value)
                    check_refused(self, InvalidNumber, {"value": value}, function, number=value, table=table)
                for function in OF_TWO:
                    check_refused(self, InvalidNumber, {"value": value}, function, table, value, 0)
                    check_refused(self, InvalidNumber, {"value": value}, function, table, 0, value)
                    check_refused(self, InvalidNumber, {"value": value}, function, other=0, one=value, table=table)

    def test_the_first_wrong_number(self):
        for function in OF_TWO:
            for one, other in itertools.permutations([None, True, -1, 4, "1"], 2):
                check_refused(self, InvalidNumber, {"value": one}, function, SQUARE, one, other)
                check_refused(self, InvalidNumber, {"value": one}, function, other=other, one=one, table=SQUARE)


class Kept(unittest.TestCase):
    def test_answers_do_not_hang_together(self):
        first = all_lists(DIAMOND, 4)
        first[0].append(9)
        first.append([])
        self.assertEqual(all_lists(DIAMOND, 4), [[1, 2], [1, 3], [2, 3]])
        two = two_lists(DIAMOND)
        two[1].clear()
        self.assertTrue(same(two_lists(DIAMOND), (4, [1, 2], [1, 3])))
        parts = table_parts(DIAMOND)
        parts.clear()
        self.assertEqual(table_parts(DIAMOND), [1, 2, 3])

    def test_defined_in_the_file(self):
        for function in [is_table] + OF_TABLE + OF_NUMBER + OF_TWO:
            self.assertEqual(function.__module__, "partsmet.tables")
            self.assertIs(getattr(tables, function.__name__), function)


if __name__ == "__main__":
    unittest.main()
