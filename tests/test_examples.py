"""The examples of the interface, each answer just as printed there."""

import doctest
import unittest

# One text: names stand for what they were in the last example that gave them.
EXAMPLES = '''
>>> from partsmet.kinds import is_finite, is_kind, is_line, is_single, state_count, told_kind
>>> bag, flag = ("map", ("row", 2)), ("row", 2)
>>> [is_kind(bag), is_kind(("row", True)), told_kind(("tops", 3, ((1, 2), (0, 1), (1, 2)))), is_line(("tops", 2, [(0, 1)])), is_line(("tops", 2, [])), is_line(("later", flag, ("count",)))]
[True, False, ('tops', 3, [(0, 1), (1, 2)]), True, False, True]
>>> [is_single(("map", ("row", 1))), is_finite(bag), is_finite(("above", flag, flag)), state_count(("tops", 3, [(0, 1)])), state_count(("later", flag, ("row", 3))), state_count(("above", flag, ("row", 3)))]
[True, False, True, 6, 6, 5]

>>> from partsmet.states import all_states, greatest_state, is_state, least_state, told_state
>>> [least_state(("pair", bag, ("above", flag, flag))), is_state(bag, [("a", 1), ("b", 1)]), is_state(bag, [("a", 0)]), is_state(bag, [("b", 1), ("a", 1)]), told_state(bag, (("a", 1),))]
[([], ('low', 0)), True, False, False, [('a', 1)]]
>>> [all_states(("tops", 3, [(0, 1)])), greatest_state(("tops", 3, [(0, 1)])), greatest_state(bag), greatest_state(("above", ("count",), flag)), all_states(("above", flag, ("row", 1)))]
[[[], [0], [0, 2], [1], [1, 2], [2]], [1, 2], None, ('high', 1), [('high', 0), ('low', 0), ('low', 1)]]

>>> from partsmet.joins import are_beside, is_at_most, join, joined
>>> names, steps = ("map", ("count",)), ("tops", 3, [(0, 1)])
>>> later, above = ("later", names, ("count",)), ("above", ("count",), ("row", 2))
>>> [join(names, [("a", 2)], [("a", 1), ("b", 1)]), join(steps, [0, 2], [1]), join(later, ([("a", 1)], 4), ([("b", 1)], 2)), join(later, ([], 9), ([("b", 1)], 2)), join(above, ("high", 0), ("low", 7)), joined(names, []), is_at_most(steps, [0], [1]), are_beside(later, ([("a", 1)], 4), ([("b", 1)], 2))]
[[('a', 2), ('b', 1)], [1, 2], ([('a', 1), ('b', 1)], 0), ([('b', 1)], 2), ('high', 0), [], True, True]

>>> from partsmet.parts import is_part, is_part_list, lacked, part_list, thinned
>>> diamond = ("table", [[0, 1, 2, 3, 4], [1, 1, 4, 4, 4], [2, 4, 2, 4, 4], [3, 4, 4, 3, 4], [4, 4, 4, 4, 4]])
>>> [part_list(names, [("a", 2), ("b", 1)]), part_list(later, ([("a", 1), ("b", 2)], 0)), part_list(later, ([("a", 1), ("b", 2)], 3)), part_list(above, ("high", 0)), part_list(diamond, 4), is_part(later, ([("a", 1), ("b", 2)], 3)), is_part(diamond, 4)]
[[[('a', 2)], [('b', 1)]], [([('a', 1)], 0), ([('b', 2)], 0)], [([('a', 1), ('b', 2)], 3)], [('high', 0)], [1, 2], True, False]
>>> [lacked(names, [("a", 5), ("b", 1)], [("a", 5)]), thinned(diamond, [1, 2, 3]), thinned(names, [[("a", 1)], [], [("a", 2)]]), is_part_list(diamond, 4, (3, 1)), is_part_list(diamond, 4, [1, 2, 3]), is_part_list(names, [], [])]
[[[('b', 1)]], [2, 3], [[('a', 2)]], True, False, True]

>>> from partsmet.tables import all_lists, has_differences, has_single_lists, is_distributive, is_table, meet, needed, table_difference, table_parts, two_differences, two_lists
>>> diamond, square = [[0, 1, 2, 3, 4], [1, 1, 4, 4, 4], [2, 4, 2, 4, 4], [3, 4, 4, 3, 4], [4, 4, 4, 4, 4]], [[0, 1, 2, 3], [1, 1, 3, 3], [2, 3, 2, 3], [3, 3, 3, 3]]
>>> [is_table([[0, 1], [1, 0]]), is_table(square), table_parts(square), needed(square, 3), needed(diamond, 4), all_lists(diamond, 4), all_lists(diamond, 0), two_lists(diamond), two_lists(square), has_single_lists(square)]
[False, True, [1, 2], [1, 2], [], [[1, 2], [1, 3], [2, 3]], [[]], (4, [1, 2], [1, 3]), None, True]

>>> [meet(diamond, 1, 4), meet(square, 1, 2), is_distributive(diamond), is_distributive(square), has_differences(square), table_difference(square, 3, 1), table_difference(diamond, 4, 1), two_differences(diamond), two_differences(square)]
[1, 0, False, True, True, 2, None, (1, 2, 1, 3), None]

>>> from partsmet.grades import grade, kind_at, led_out, ways
>>> diamond = [[0, 1, 2, 3, 4], [1, 1, 4, 4, 4], [2, 4, 2, 4, 4], [3, 4, 4, 3, 4], [4, 4, 4, 4, 4]]
>>> gems, ahead = ("map", ("pair", ("count",), ("table", diamond))), ("later", ("map", ("row", 2)), ("row", 2))
>>> [grade(gems), ways(gems), kind_at(gems, ["inner", "first"]), led_out(gems, ["inner", "second"], 4), grade(("later", ("count",), ("map", ("row", 2)))), grade(ahead)]
['neither', [[], ['inner'], ['inner', 'first'], ['inner', 'second']], ('count',), [('a', (0, 4))], 'differences', 'neither']

>>> from partsmet.culprits import culprit, differences_by, is_culprit, lists_by
>>> beside = ([], ([("a", 1)], [("b", 1)], 1))
>>> [is_culprit(ahead, "lists", beside), lists_by(ahead, beside), is_culprit(gems, "lists", (["inner", "second"], (4, [1, 2], [2, 3]))), culprit(("count",), "lists")]
[True, (([('a', 1), ('b', 1)], 0), [([('a', 1)], 0), ([('b', 1)], 0)], [([('a', 1)], 1), ([('b', 1)], 0)]), True, None]
>>> [differences_by(ahead, beside), is_culprit(gems, "differences", (["inner", "second"], (1, 2, 1, 3))), is_culprit(gems, "differences", (["inner", "second"], (1, 2, 1, 1)))]
[(([('a', 1)], 1), ([('a', 1)], 0), ([('a', 1)], 1), ([('b', 1)], 0)), True, False]

>>> from partsmet.differences import difference, is_difference, is_least_difference, lot_distance
>>> counts, later = ("map", ("count",)), ("later", ("row", 3), ("count",))
>>> [difference(counts, [("a", 5), ("b", 1)], [("a", 2)]), difference(counts, [("a", 5), ("b", 1)], [("a", 7)]), difference(later, (1, 4), (1, 2)), difference(later, (1, 4), (2, 0))]
[[('a', 5), ('b', 1)], [('b', 1)], (1, 4), (0, 0)]
>>> [is_difference(counts, [("a", 5)], [("a", 7)], []), is_least_difference(counts, [("a", 5)], [], [("a", 6)]), lot_distance(("pair", ("row", 4), ("row", 2)), (3, 0), (1, 1)), lot_distance(("later", ("row", 2), ("row", 3)), (1, 0), (0, 1))]
[True, False, 3, 2]

>>> from partsmet.logs import added, beginnings, forgotten, fresh_log, is_log_of, log_state, needless, part_log
>>> told = [[("a", 1)], [("a", 3)], [("a", 2), ("b", 2)]]
>>> [log_state(counts, told), beginnings(counts, told)[:3], needless(counts, told), part_log(counts, told), fresh_log(counts, told)]
[[('a', 3), ('b', 2)], [[], [('a', 1)], [('a', 3)]], [0], [[('a', 3)], [('b', 2)]], [[('a', 1)], [('a', 3)], [('b', 2)]]]
>>> [added(counts, [[("a", 3)]], told), forgotten(counts, told, [("a", 2)]), is_log_of(counts, [("a", 3)], told), is_log_of(counts, [], [])]
[[[('a', 3)], [('b', 2)]], [[('a', 3)], [('a', 2), ('b', 2)]], False, True]

>>> from partsmet.views import is_view, view_kind, worth
>>> nest, two = ("map", ("map", ("count",))), [("a", [("x", 2)]), ("b", [("x", 1), ("y", 3)])]
>>> [view_kind(nest, ("values", ("joined",))), worth(nest, ("joined",), two), worth(nest, ("values", ("joined",)), two), worth(nest, ("then", ("at", "b"), ("at", "y")), two)]
[('map', ('count',)), [('x', 2), ('y', 3)], [('a', 2), ('b', 3)], 3]
>>> [worth(("map", ("count",)), ("renamed", [("a", "b"), ("c", "a")]), [("a", 2), ("b", 1), ("c", 5)]), is_view(("later", ("count",), ("count",)), ("second",)), worth(("above", ("count",), ("row", 3)), ("upper",), ("low", 7)), view_kind(("count",), ("both", ("same",), ("same",)))]
[[('a', 5), ('b', 2)], False, 0, ('pair', ('count',), ('count',))]

>>> from partsmet.shapes import are_one, is_parting, parting, shapes
>>> [shapes(("map", ("count",)), ["a", "b"], 2), shapes(("later", ("count",), ("row", 2)), [], 1), shapes(("above", ("row", 2), ("count",)), [], 2)]
[[[('a', 1)], [('a', 2)], [('b', 1)], [('b', 2)]], [(0, 1), (1, 0), (1, 1)], [('high', 0), ('high', 1), ('high', 2), ('low', 1)]]
>>> [are_one(nest, ("joined",), ("values", ("joined",))), are_one(nest, ("then", ("joined",), ("joined",)), ("then", ("values", ("joined",)), ("joined",))), is_parting(nest, ("joined",), ("values", ("joined",)), [("a", [("b", 1)])]), is_parting(nest, ("joined",), ("values", ("joined",)), [("a", [("a", 1)])]), parting(nest, ("same",), ("some", ["a"])) is None]
[False, True, True, False, False]

>>> from partsmet.questions import asked, decider, goes_through, is_question, is_two_below, two_below
>>> tally = ("map", ("count",))
>>> [asked(tally, (("at", "a"), 2), [("a", 3)]), asked(tally, (("joined",), 4), [("a", 3), ("b", 1)]), is_question(tally, (("at", "a"), -1)), goes_through(tally, (("joined",), 4)), decider(tally, (("joined",), 4)), two_below(tally, (("at", "a"), 0))]
[True, False, False, True, 0, None]
>>> [goes_through(tally, (("same",), [("a", 1), ("b", 2)])), decider(tally, (("same",), [("a", 1), ("b", 2)])), is_two_below(tally, (("same",), [("a", 1), ("b", 2)]), ([("a", 1)], [("b", 3)])), is_two_below(tally, (("same",), [("a", 1)]), ([], [("a", 2)]))]
[False, None, True, False]

>>> from partsmet.orders import kind_parts, lot_count, lot_state, part_lot, part_order, ways_up
>>> steps = ("pair", ("row", 3), ("row", 2))
>>> [kind_parts(steps), part_order(steps), lot_count(steps), ways_up(steps), part_lot(steps, (1, 1)), lot_state(steps, [0, 1, 2])]
[[(0, 1), (1, 0), (2, 0)], [(1, 2)], 6, 3, [0, 1], (2, 1)]

>>> from partsmet.alikes import is_renaming, least_table, led_state, renaming
>>> forked = ("tops", 3, [(2, 0)])
>>> [renaming(steps, forked), least_table(forked), is_renaming(steps, forked, (1, 2, 0)), renaming(steps, ("row", 4)), led_state(steps, forked, [1, 2, 0], (1, 1))]
[[1, 2, 0], [[0, 0, 0], [0, 0, 0], [0, 1, 0]], True, None, [1, 2]]

>>> from partsmet.webs import has_ring, is_joined, is_web, neighbours, ring, told_web
>>> path, round_web = (3, [(1, 2), (0, 1)]), (4, [(0, 1), (0, 2), (1, 2)])
>>> [is_web(path), is_web((2, [(1, 0)])), told_web(path), neighbours(path, 1), is_joined(path), is_joined(round_web), has_ring(path), ring(path), sorted(ring(round_web))]
[True, False, (3, [(0, 1), (1, 2)]), [0, 2], True, False, False, None, [0, 1, 2]]

>>> from partsmet.runs import crossings, grown, is_fresh, played, round_run, settled
>>> kind, run = ("map", ("count",)), [("grow", 0, [("a", 2)]), ("send", 0, 1), ("hear", 0), ("grow", 1, [("b", 1)]), ("send", 1, 2), ("hear", 1)]
>>> [played(kind, path, "known", run)[0], played(kind, path, "known", run)[2], played(kind, path, "since", run)[2]]
[[[('a', 2)], [('a', 2), ('b', 1)], [('a', 2), ('b', 1)]], [(1, 0, [('b', 1)])], [(1, 0, [('a', 2), ('b', 1)]), (2, 1, [('a', 2), ('b', 1)])]]
>>> [settled(kind, path, "known", run), settled(kind, path, "known", run + [("send", 1, 0), ("hear", 2)]), grown(kind, run), is_fresh(kind, run), crossings(kind, path, "known", run), len(crossings(("map", ("row", 2)), round_web, "back", round_run(round_web, 2))) > 0]
[False, True, [('a', 2), ('b', 1)], True, [(0, 1, [('a', 2)], 1), (1, 2, [('a', 2)], 1), (1, 2, [('b', 1)], 1)], True]

>>> from partsmet.texts import is_of_sort, written
>>> both = ("pair", ("map", ("count",)), ("tops", 3, [(0, 2)]))
>>> [written("kind", both), written("state", (both, ([("a", 5)], [1, 2]))), written("log", (("row", 3), [2, 0])), is_of_sort("state", (("row", 3), 3))]
['kind pair map count tops 3 0<2\\n', 'state pair map count tops 3 0<2\\nis ({a:5},[1,2])\\n', 'log row 3\\nentry 2\\nentry 0\\n', False]
>>> [written("view", (both, ("then", ("first",), ("at", "a")))), written("kind", ("above", ("table", [[0, 1], [1, 1]]), ("count",)))]
['view pair map count tops 3 0<2\\nis then first at a\\n', 'kind above table 0,1;1,1 count\\n']

>>> from partsmet.readers import read
>>> [read("kind map row 2\\n"), read("state above count row 2\\nis high(1)\\n"), read("log count\\n"), read("view map count\\nis some a,b\\n")]
[('kind', ('map', ('row', 2))), ('state', (('above', ('count',), ('row', 2)), ('high', 1))), ('log', (('count',), [])), ('view', (('map', ('count',)), ('some', ['a', 'b'])))]

>>> from partsmet.claims import contrary, is_claim, is_paper_of, is_true
>>> diamond = ("table", [[0, 1, 2, 3, 4], [1, 1, 4, 4, 4], [2, 4, 2, 4, 4], [3, 4, 4, 3, 4], [4, 4, 4, 4, 4]])
>>> [is_true(("even", both)), is_true(("single", diamond)), contrary(("single", diamond)) == ("double", diamond), is_true(("least", ("count",), 5, 2, 5)), is_paper_of(("notleast", ("row", 9), 2, 2, 3), 0), is_claim(("least", ("count",), 5, 2, 4))]
[True, False, True, True, True, False]
>>> [is_true(("one", both, ("first",), ("first",))), is_paper_of(("parted", ("map", ("count",)), ("same",), ("some", ["a"])), [("b", 1)]), is_true(("alike", ("row", 2), ("table", [[0, 1], [1, 1]]))), is_paper_of(("through", ("map", ("count",)), ("joined",), 4), 0)]
[True, True, True, True]

>>> from partsmet.commands import is_command, is_deed
>>> [is_command("kind k row 3"), is_command("kind k row 03"), is_command("put s map count {a:2}"), is_command("put s map count {a:0}"), is_deed("grade k"), is_command("claim c even"), is_deed("claim c least s t u"), is_command("view v then first at a")]
[True, False, True, False, False, False, True, True]

>>> from partsmet.desk import Desk
>>> desk = Desk()
>>> desk.do_all("kind m map count", "put s map count {a:2}", "put t map count {}", "claim k even m", "parts s", "grow t s", "same s t", "atmost s t")
['-', '-', '-', 'k true', '{a:2}', '-', 'yes', 'yes']
>>> desk.do_all("view v at a", "worth v s", "claim l least s t t", "drop s", "show t", "log g map count", "note g t", "show g", "undo", "states")
['-', '2', 'l false', 'l gone', 'map count {a:2}', '-', '-', 'map count {a:2}', 'note g t', 'k true, l gone']
'''


class Examples(unittest.TestCase):
    def test_examples(self):
        test = doctest.DocTestParser().get_doctest(EXAMPLES, {}, "examples", None, 0)
        self.assertEqual(len(test.examples), EXAMPLES.count(">>>"))
        report = []
        result = doctest.DocTestRunner(verbose=False).run(test, out=report.append)
        self.assertEqual(result.failed, 0, "".join(report))


if __name__ == "__main__":
    unittest.main()
