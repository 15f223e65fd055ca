"""Promises [1], [23], [24] and [25]: sayfill/checking.py."""

import copy
import unittest
from random import Random

from sayfill.checking import plan_holds, witness_holds
from sayfill.errors import BadPaper
from sayfill.filling import fillings
from sayfill.forms import Form
from sayfill.plans import best_plan, least_questions, witness

from helpers import ODD_THINGS, SMALL_FIELDS, SMALL_RULES, WIDE_FIELDS, ErrorCase, listed, nested, shallow_calls
from plain_plans import PlainSearch, plain_outcome, random_outcomes, spoiled
from test_plans import SMALL_OUTCOMES, all_v, barren, no_outcomes, of_fields, small

# Not the best one: two questions would do.
LONG_PLAN = ("ask day\nask size\nask hour\ntell wait\ntell none\n"
             "ask size\ntell go\nask hour\ntell go\ntell none\n")
LONG_LINES = LONG_PLAN.split("\n")[:-1]
TWO = witness(small(), SMALL_OUTCOMES, 2)
TWO_LINES = TWO.split("\n")[:-1]


def paper(lines, at=None, line=None):
    """The lines as a text, with another line at a place."""
    lines = list(lines)
    if at is not None:
        lines[at] = line
    return "".join(row + "\n" for row in lines)


class PaperCase(ErrorCase):

    def assert_wrong(self, at, call, *things):
        with self.assertRaises(BadPaper, msg=repr(things)[:300]) as caught:
            call(*things)
        self.assertEqual(caught.exception.at, at, things[-1])
        self.assertIs(type(caught.exception.at), int)

    def wrong_plan(self, at, plan, form=None, outcomes=SMALL_OUTCOMES):
        self.assert_wrong(at, plan_holds, form or small(), outcomes, plan)

    def wrong_witness(self, at, told, k=2, form=None, outcomes=SMALL_OUTCOMES):
        self.assert_wrong(at, witness_holds, form or small(), outcomes, k, told)


class TestPlanHolds(PaperCase):

    def test_23_the_best_plan(self):
        self.assertEqual(plan_holds(small(), SMALL_OUTCOMES, best_plan(small(), SMALL_OUTCOMES)), 2)
        self.assertEqual(plan_holds(small(), (), "tell none\n"), 0)
        self.assertEqual(plan_holds(small(), (((), "go"),), "tell go\n"), 0)

    def test_23_a_plan_that_is_not_the_best_one(self):
        self.assertEqual(plan_holds(small(), SMALL_OUTCOMES, LONG_PLAN), 3)
        self.assertEqual(plan_holds(small(), (), "ask hour\ntell none\ntell none\ntell none\n"), 1)
        # By a field with just one possible value.
        self.assertEqual(plan_holds(small(), (), "ask day\nask size\ntell none\ntell none\n"), 2)
        self.assertEqual(plan_holds(of_fields(1, 1, 1), (), "ask c\nask a\nask b\ntell none\n"), 3)

    def test_23_the_depth_is_of_the_longest_way(self):
        plan = "ask day\ntell none\nask size\ntell none\nask hour\ntell none\ntell none\n"
        self.assertEqual(plan_holds(small(), (), plan), 3)
        plan = "ask day\nask size\nask hour\ntell none\ntell none\ntell none\n"
        self.assertEqual(plan_holds(small(), (), plan), 3)
        plan = "ask hour\nask day\ntell none\ntell none\ntell none\ntell none\n"
        self.assertEqual(plan_holds(small(), (), plan), 2)

    def test_23_an_ask_of_a_field_that_is_asked_already(self):
        self.wrong_plan(1, paper(LONG_LINES, 1, "ask day"))
        self.wrong_plan(2, paper(LONG_LINES, 2, "ask day"))
        self.wrong_plan(2, paper(LONG_LINES, 2, "ask size"))
        self.wrong_plan(7, paper(LONG_LINES, 7, "ask size"))
        self.wrong_plan(7, paper(LONG_LINES, 7, "ask day"))

    def test_23_an_ask_of_no_field(self):
        for name in ("days", "mon", "da", "Day", "", " ", "day size", "day ", " day", "go"):
            for at in (0, 1, 5):
                self.wrong_plan(at, paper(LONG_LINES, at, "ask " + name))

    def test_23_a_tell_of_what_is_not_so(self):
        for at, line in enumerate(LONG_LINES):
            for word in ("go", "wait", "none", "never", "other"):
                if line.startswith("ask"):
                    self.wrong_plan(at, paper(LONG_LINES, at, "tell " + word))
                elif line != "tell " + word:
                    self.wrong_plan(at, paper(LONG_LINES, at, "tell " + word))
        self.wrong_plan(0, "tell go\n")
        self.wrong_plan(0, "tell none\n")

    def test_23_lines_that_are_none(self):
        for line in ("", " ", "tell", "ask", "tell ", "ask ", "Tell go", "ASK day", "say go", "node", "ask  day",
                     " ask day", "ask day ", "ask\tday", "tell  wait", "tell wait ", " tell wait", "tell wait go",
                     "tell Wait", "tell ninesigns", "tellwait", "askday", "tell wait\r", "tell w-it", "tell 1", "wait",
                     "tell \u00e9", "ask day:", "both v / w", "if day mon", "ask day tell", "\u00e9", "ask 'day'"):
            for at in range(len(LONG_LINES)):
                self.wrong_plan(at, paper(LONG_LINES, at, line))

    def test_23_lines_that_lack(self):
        for many in range(len(LONG_LINES)):
            self.wrong_plan(many, paper(LONG_LINES[:many]))
        self.wrong_plan(0, "")
        self.wrong_plan(1, "ask day\n")

    def test_23_lines_behind_the_tree(self):
        for line in ("tell go", "ask day", "", " ", "x"):
            self.wrong_plan(10, paper(LONG_LINES + [line]))
            self.wrong_plan(10, paper(LONG_LINES + [line, "y"]))
            self.wrong_plan(1, paper(["tell none", line]), outcomes=())
        self.wrong_plan(10, LONG_PLAN + "tell go")
        self.wrong_plan(10, LONG_PLAN + " ")
        self.wrong_plan(10, LONG_PLAN + LONG_PLAN)

    def test_23_a_last_line_without_a_line_feed(self):
        self.wrong_plan(9, LONG_PLAN[:-1])
        self.wrong_plan(0, "tell none", outcomes=())
        self.wrong_plan(0, "ask day")
        self.wrong_plan(1, "ask day\nask size")
        self.wrong_plan(1, "ask day\ntell no\ntell no")

    def test_23_a_line_too_few_in_the_middle(self):
        # The first wrong line is then the one that is not what it must be instead.
        self.wrong_plan(4, paper(LONG_LINES[:4] + LONG_LINES[5:]))
        self.wrong_plan(8, paper(LONG_LINES[:6] + LONG_LINES[7:]))

    def test_23_other_signs_part_no_lines(self):
        for sign in ("\r", "\r\n", "\x0b", "\x0c", "\x1c", "\u2028", "\x85"):
            self.wrong_plan(0, LONG_PLAN.replace("\n", sign))

    def test_23_the_first_wrong_line(self):
        lines = list(LONG_LINES)
        lines[8], lines[3] = "x", "y"
        self.wrong_plan(3, paper(lines))
        lines[2] = "tell wait"
        self.wrong_plan(3, paper(lines[:2] + ["ask hour"] + lines[3:]))

    def test_23_what_is_no_string(self):
        for thing in list(ODD_THINGS) + [(), [], LONG_LINES, (LONG_PLAN,), [LONG_PLAN], nested(39, LONG_PLAN)]:
            self.wrong_plan(0, thing)

    def test_23_a_form_without_fillings(self):
        for word in ("none", "go", "any", "ninesign"):
            self.assertEqual(plan_holds(barren(), SMALL_OUTCOMES, "tell " + word + "\n"), 0)
        self.assertEqual(plan_holds(barren(), (), "ask size\n"), 1)
        self.wrong_plan(1, "ask size\ntell none\n", barren())
        self.wrong_plan(1, "tell none\ntell none\n", barren())
        self.wrong_plan(0, "tell ninesigns\n", barren())
        self.wrong_plan(0, "tell None\n", barren())
        self.wrong_plan(0, "tell  no\n", barren())
        self.wrong_plan(0, "ask sizes\n", barren())
        self.wrong_plan(0, "", barren())
        self.wrong_plan(0, "tell none", barren())

    def test_23_more_than_a_hundred_fillings(self):
        form = Form(WIDE_FIELDS, ())
        self.assertEqual(len(fillings(form, ())), 1000)
        self.assertEqual(plan_holds(form, (), "tell none\n"), 0)
        plan = "ask ape\n" + "tell no\n" * 2 + "tell none\n" + "tell no\n" * 2
        outcomes = (((("ape", "x"),), "none"), ((), "no"))
        self.assertEqual(plan_holds(form, outcomes, plan), 1)
        self.wrong_plan(3, plan.replace("none", "no"), form, outcomes)

    def test_23_a_plan_that_asks_all_in_good_time(self):
        form = Form(WIDE_FIELDS, ())
        outcomes = tuple((((name, value),), "w" + value) for name, values in WIDE_FIELDS for value in values)[:20]

        def lines(at, facts):
            if at == len(WIDE_FIELDS):
                return ["tell " + plain_outcome(outcomes, facts)]
            name, values = WIDE_FIELDS[at]
            return ["ask " + name] + [line for value in values for line in lines(at + 1, facts + ((name, value),))]

        plan = lines(0, ())
        self.assertEqual(plan_holds(form, outcomes, paper(plan)), 6)
        self.wrong_plan(len(plan) - 1, paper(plan, -1, "tell wrong"), form, outcomes)

    def test_23_outcomes_ahead_of_the_plan(self):
        for thing in no_outcomes():
            self.assert_bad(1, plan_holds, small(), thing, LONG_PLAN)
        self.assert_bad(1, plan_holds, small(), None, None)

    def test_23_as_checked_plainly(self):
        found = {}
        for seed in range(260):
            fields, rules, outcomes = random_outcomes(seed)
            search, chance, form = PlainSearch(fields, rules, outcomes), Random(seed), Form(fields, rules)
            if len(search.rows) > 100:
                continue
            plan = search.plan() if search.rows else ["ask " + fields[0][0]]
            words = [name for name, _ in fields] + ["yes", "no", "none", "ask", "tell", "x"]
            for _ in range(12):
                text = spoiled(chance, plan, words)
                told = search.check_plan(text)
                if isinstance(told, tuple):
                    self.wrong_plan(told[1], text, form, outcomes)
                else:
                    self.assertEqual(plan_holds(form, outcomes, text), told)
                found[isinstance(told, tuple)] = found.get(isinstance(told, tuple), 0) + 1
        self.assertGreater(min(found.values()), 200)


class TestWitnessHolds(PaperCase):

    def test_25_the_witness(self):
        self.assertIs(witness_holds(small(), SMALL_OUTCOMES, 2, TWO), True)
        self.assertIs(witness_holds(small(), SMALL_OUTCOMES, 1, "both mon small one / tue big two\n"), True)

    def test_25_the_pair_in_either_sequence(self):
        self.assertIs(witness_holds(small(), SMALL_OUTCOMES, 1, "both tue big two / mon small one\n"), True)
        self.assertIs(witness_holds(small(), SMALL_OUTCOMES, 2, paper(
            TWO_LINES, 2, "both mon small three / mon small one")), True)

    def test_25_other_values_and_other_pairs(self):
        told = paper(["node", "if day tue", "both tue small one / tue small three",
                      "if size small", "both tue small three / mon small one",
                      "if hour three", "both tue small three / tue big three"])
        self.assertIs(witness_holds(small(), SMALL_OUTCOMES, 2, told), True)

    def test_25_two_fillings_that_do_not_fit(self):
        for line in ("both mon small one / tue big two", "both tue big two / mon small one",
                     "both tue big two / tue small three"):
            self.wrong_witness(2, paper(TWO_LINES, 2, line))
        self.wrong_witness(4, paper(TWO_LINES, 4, "both mon small one / tue big one"))
        self.wrong_witness(6, paper(TWO_LINES, 6, "both mon small one / tue big two"))

    def test_25_what_are_no_fillings(self):
        for told in ("mon big one / mon small three", "mon small one / tue small two", "mon small one / mon small four",
                     "small mon one / mon small three", "mon small / mon small three", "mon small one / mon small",
                     "mon small one one / mon small three", "day size hour / mon small three"):
            self.wrong_witness(0, "both " + told + "\n", 1)
            self.wrong_witness(2, paper(TWO_LINES, 2, "both " + told))

    def test_25_two_fillings_of_one_outcome(self):
        self.wrong_witness(0, "both mon small one / mon small one\n", 1)
        self.wrong_witness(0, "both tue big one / tue big two\n", 1)
        self.wrong_witness(0, "both mon small three / tue small three\n", 1)
        self.wrong_witness(2, paper(TWO_LINES, 2, "both mon small three / mon small three"))

    def test_25_lines_that_are_none(self):
        for line in ("", " ", "both", "node ", " node", "Node", "nodes", "node node", "if", "if day", "if day ",
                     "both mon small one", "both mon small one /", "both / mon small one", "mon small one / mon small three",
                     "both mon small one  / mon small three", "both mon small one /  mon small three",
                     "both mon  small one / mon small three", "both  mon small one / mon small three",
                     "both mon small one/mon small three", "both mon small one / mon small three ",
                     " both mon small one / mon small three", "both mon small one / mon small three / mon small one",
                     "both mon small one // mon small three", "both mon small one - mon small three",
                     "Both mon small one / mon small three", "some mon small one / mon small three", "tell go", "ask day",
                     "both mon small one , mon small three", "both (mon small one) / (mon small three)"):
            for at in range(len(TWO_LINES)):
                self.wrong_witness(at, paper(TWO_LINES, at, line))

    def test_25_an_if_of_another_field_or_of_a_value_that_is_not_possible(self):
        for line in ("if size small", "if hour one", "if days mon", "if day big", "if day", "if day wed", "if mon day",
                     "if  day mon", "if day  mon", "if day mon ", " if day mon", "If day mon", "if day mon tue",
                     "day mon", "node", "both mon small one / mon small three"):
            self.wrong_witness(1, paper(TWO_LINES, 1, line))
        self.wrong_witness(3, paper(TWO_LINES, 3, "if day tue"))
        self.wrong_witness(3, paper(TWO_LINES, 3, "if hour one"))
        self.wrong_witness(5, paper(TWO_LINES, 5, "if size big"))

    def test_25_a_value_that_is_not_possible_on_the_way(self):
        form = Form((("a", ("v", "w")), ("b", ("v", "w", "x")), ("c", ("v", "w"))), ((("a", "v"), ("b", "w")),))
        told = (((("c", "v"),), "x"), ((("b", "v"),), "y"))
        self.assertEqual(least_questions(form, told), 2)
        lines = ["node", "if a v", "both v v v / v v w", "if b v", "both v v v / v v w", "if c w", "both v v w / v x w"]
        self.assertIs(witness_holds(form, told, 2, paper(lines)), True)
        form = of_fields(2, 3, 2, 2)
        form = Form(form.fields(), ((("a", "v"), ("b", "w")),))
        told = ((tuple((name, "v") for name in "abcd"), "x"),)
        lines = witness(form, told, 3).split("\n")[:-1]
        self.assertEqual(lines[:4], ["node", "if a v", "node", "if b v"])
        self.wrong_witness(3, paper(lines, 3, "if b w"), 3, form, told)
        self.assert_wrong(4, witness_holds, form, told, 3, paper(lines, 3, "if b x"))

    def test_25_an_if_of_a_field_that_is_not_open(self):
        form = Form((("a", ("v",)), ("b", ("v", "w"))), ())
        told = (((("b", "v"),), "x"),)
        self.wrong_witness(1, "node\nif a v\nboth v v / v w\nif b v\nboth v v / v w\n", 2, form, told)
        # Behind `day mon` the size is small, so it is not open.
        told = (((("day", "mon"), ("hour", "one")), "x"), ((("day", "tue"), ("size", "big"), ("hour", "two")), "y"))
        lines = ["node", "if day mon", "node", "if size small", "both mon small one / mon small three"]
        self.wrong_witness(3, paper(lines), 3, small(), told)
        lines[3:] = ["if hour one", "both mon small one / mon small one"]
        self.wrong_witness(4, paper(lines), 3, small(), told)

    def test_25_a_node_at_which_no_field_is_open(self):
        form = Form((("a", ("v", "w")),), ())
        told = (((("a", "v"),), "x"),)
        self.wrong_witness(2, "node\nif a v\nnode\n", 3, form, told)
        self.wrong_witness(2, "node\nif a v\nboth v / w\n", 3, form, told)
        self.wrong_witness(2, "node\nif a v\n", 3, form, told)
        self.wrong_witness(0, "node\n", 2, of_fields(1, 1), ())
        self.wrong_witness(0, "node\n", 6, of_fields(1), ())

    def test_25_a_node_of_another_kind(self):
        self.wrong_witness(0, "node\n", 1)
        self.wrong_witness(0, TWO, 1)
        self.wrong_witness(0, "both mon small one / tue big two\n", 2)
        self.wrong_witness(2, TWO, 3)
        self.wrong_witness(2, paper(TWO_LINES, 2, "node"))

    def test_25_lines_that_lack_or_are_too_many(self):
        for many in range(len(TWO_LINES)):
            self.wrong_witness(many, paper(TWO_LINES[:many]))
        for line in ("node", "", " ", "both mon small one / tue big one"):
            self.wrong_witness(7, paper(TWO_LINES + [line]))
        self.wrong_witness(7, TWO + "node")
        self.wrong_witness(7, TWO + TWO)
        self.wrong_witness(1, "both mon small one / tue big two\n" * 2, 1)

    def test_25_a_last_line_without_a_line_feed(self):
        self.wrong_witness(6, TWO[:-1])
        self.wrong_witness(0, "node")
        self.wrong_witness(0, "both mon small one / tue big two", 1)

    def test_25_what_is_no_string(self):
        for thing in list(ODD_THINGS) + [(), [], TWO_LINES, (TWO,), [TWO]]:
            for k in (1, 2, 6):
                self.wrong_witness(0, thing, k)

    def test_25_a_form_without_fillings(self):
        for told in ("", "node\n", "node", "both mon small one / tue big two\n", "tell none\n", TWO, None, 1,
                     "if day mon\n", "\n"):
            for k in range(1, 7):
                self.wrong_witness(0, told, k, barren())
                self.wrong_witness(0, told, k, barren(), ())

    def test_25_more_than_a_hundred_fillings(self):
        form, told = Form(WIDE_FIELDS, ()), (((("ape", "x"),), "x"), ((("bee", "x"),), "y"))
        self.assertIs(witness_holds(form, told, 1, "both v v v v v v / x v v v v v\n"), True)
        lines = ["node"]
        for name, _ in WIDE_FIELDS[:5]:
            lines += [f"if {name} v", {"ape": "both v v v v v v / v x v v v v"}.get(name, "both v v v v v v / x v v v v v")]
        self.assertIs(witness_holds(form, told, 2, paper(lines)), True)
        self.wrong_witness(2, paper(lines, 2, "both v v v v v v / x v v v v v"), 2, form, told)

    def test_25_the_order_of_errors(self):
        for thing in no_outcomes():
            self.assert_bad(1, witness_holds, small(), thing, None, None)
        things = [odd for odd in ODD_THINGS if isinstance(odd, bool) or odd not in (1, 2)]
        for k in things + [7, 0, -1, (), [], [1], "1", True, False, 10 ** 30]:
            self.assert_bad(2, witness_holds, small(), SMALL_OUTCOMES, k, None)
            self.assert_bad(2, witness_holds, barren(), (), k, TWO)
        self.assert_bad(1, witness_holds, barren(), None, 7, None)

    def test_25_as_checked_plainly(self):
        found = {}
        for seed in range(260):
            fields, rules, outcomes = random_outcomes(seed)
            search, chance, form = PlainSearch(fields, rules, outcomes), Random(seed), Form(fields, rules)
            if len(search.rows) > 60:
                continue
            words = [name for name, _ in fields] + list("vwxyz") + ["node", "if", "both", "/"]
            for k in range(1, 5):
                if search.can_show(k - 1):
                    for _ in range(8):
                        text = spoiled(chance, search.witness(k - 1), words)
                        other = chance.choice((k, k, k, k, 1, 2, 3))
                        told = search.check_witness(other, text)
                        if isinstance(told, tuple):
                            self.wrong_witness(told[1], text, other, form, outcomes)
                        else:
                            self.assertIs(witness_holds(form, outcomes, other, text), True)
                        found[isinstance(told, tuple)] = found.get(isinstance(told, tuple), 0) + 1
        self.assertGreater(min(found.values()), 100, found)


class TestJustOne(PaperCase):

    def test_25_a_plan_of_less_depth_or_a_witness(self):
        for seed in range(120):
            fields, rules, outcomes = random_outcomes(seed)
            form, search = Form(fields, rules), PlainSearch(fields, rules, outcomes)
            if len(search.rows) > 60:
                continue
            if not search.rows:
                self.assertEqual(plan_holds(form, outcomes, "tell go\n"), 0)
                continue
            depth = plan_holds(form, outcomes, best_plan(form, outcomes))
            for k in range(1, 7):
                if depth >= k:
                    self.assertIs(witness_holds(form, outcomes, k, witness(form, outcomes, k)), True)
                    self.assertFalse(search.depth() < k)
                else:
                    self.assertFalse(search.can_show(k - 1))

    def test_25_six_questions(self):
        form = of_fields(2, 2, 2, 2, 2, 2)
        told = witness(form, all_v(form), 6)
        self.assertIs(witness_holds(form, all_v(form), 6, told), True)
        lines = told.split("\n")[:-1]
        self.wrong_witness(len(lines) - 1, paper(lines, -1, "both v v v v v v / w w w w w w"), 6, form, all_v(form))
        self.assertEqual(plan_holds(form, all_v(form), best_plan(form, all_v(form))), 6)


class TestBasics(PaperCase):

    def test_1_by_position_and_by_name(self):
        self.assertEqual(plan_holds(plan=LONG_PLAN, outcomes=SMALL_OUTCOMES, form=small()), 3)
        self.assertIs(witness_holds(paper=TWO, k=2, outcomes=SMALL_OUTCOMES, form=small()), True)

    def test_1_lists_and_arguments_that_stay_as_they_were(self):
        told = listed(SMALL_OUTCOMES)
        kept = copy.deepcopy(told)
        form = Form(listed(SMALL_FIELDS), listed(SMALL_RULES))
        for _ in range(2):
            self.assertEqual(plan_holds(form, told, LONG_PLAN), 3)
            self.assertIs(witness_holds(form, told, 2, TWO), True)
            self.wrong_plan(0, "", form, told)
            self.wrong_witness(0, "", 2, form, told)
        self.assertEqual(told, kept)
        self.assertEqual(form, small())

    def test_1_no_deep_nesting_of_calls(self):
        with shallow_calls():
            self.wrong_plan(1, "ask day\n" * 25000)
            self.wrong_witness(1, "node\n" * 40000, 6)
            self.wrong_plan(0, "\n" * 200000)
            self.assertEqual(plan_holds(small(), SMALL_OUTCOMES, LONG_PLAN), 3)

    def test_1_defined_in_their_file(self):
        for function in (plan_holds, witness_holds):
            self.assertEqual(function.__module__, "sayfill.checking")


if __name__ == "__main__":
    unittest.main()
