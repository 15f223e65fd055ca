"""Promises [1], [20], [21], [22], [24] and [25]: sayfill/plans.py."""

import copy
import unittest
from random import Random

from sayfill.checking import plan_holds, witness_holds
from sayfill.errors import NothingThere, TooMany
from sayfill.filling import fillings
from sayfill.forms import Form
from sayfill.plans import best_plan, least_questions, outcome, settled, witness

from helpers import (
    EMPTY_ROWS, ODD_THINGS, SMALL_FIELDS, SMALL_RULES, WIDE_FIELDS, ErrorCase, listed, odd_facts, random_facts,
    shallow_calls, wrong_facts,
)
from plain_plans import PlainSearch, plain_outcome, random_outcomes

# Four fillings lead to `go`, one to `wait`, two to `none`.
SMALL_OUTCOMES = (
    ((("day", "tue"), ("size", "big")), "go"), ((("hour", "one"), ("day", "mon")), "wait"),
    ((("hour", "one"),), "go"), ((("day", "mon"), ("hour", "two")), "never"),
)


def small():
    """A form of three fields, of which seven fillings break no rule."""
    return Form(SMALL_FIELDS, SMALL_RULES)


def barren():
    """A form without fillings."""
    return Form(SMALL_FIELDS, ((("day", "mon"),), (("day", "tue"),)))


def of_fields(*numbers):
    """A form without rules, of fields a, b .. with so many values each."""
    return Form(tuple((name, tuple("vwxyz")[:many]) for name, many in zip("abcdef", numbers)), ())


def user(*values):
    """A filling of the small form."""
    return tuple(zip(("day", "size", "hour"), values))


def all_v(form):
    """Outcomes: `yes` if all fields have the first value."""
    return ((tuple((name, values[0]) for name, values in form.fields()), "yes"),)


def no_outcomes():
    """What are no outcomes of the small form."""
    things = [odd for odd in ODD_THINGS if odd not in EMPTY_ROWS]
    things += ["ab", ((), "go"), [[], "go"], ((),), (("go",),), (((), "go", "go"),), (((), "go"), ()), (((),),)]
    things += [(((), word),) for word in ODD_THINGS + ((), ["go"], "Go", "g o", "go ", "ninesigns", "")]
    things += [((facts, "go"),) for facts in odd_facts() + wrong_facts() if facts not in EMPTY_ROWS]
    things += [(((), "go"), odd) for odd in ODD_THINGS]
    things += [(((), "go"),) * 31, [[[], "go"]] * 31, (("go", ()),), SMALL_OUTCOMES + (((("day", "big"),), "go"),)]
    return things


class TestOutcome(ErrorCase):

    def test_20_the_first_pair_that_fits(self):
        told = {user("mon", "small", "one"): "wait", user("mon", "small", "three"): "none",
                user("tue", "big", "one"): "go", user("tue", "big", "two"): "go", user("tue", "big", "three"): "go",
                user("tue", "small", "one"): "go", user("tue", "small", "three"): "none"}
        self.assertEqual(fillings(small(), ()), tuple(told))
        for filling, word in told.items():
            self.assertEqual(outcome(small(), SMALL_OUTCOMES, filling), word)

    def test_20_none(self):
        filling = user("tue", "big", "two")
        self.assertEqual(outcome(small(), (), filling), "none")
        self.assertEqual(outcome(small(), [], filling), "none")
        self.assertEqual(outcome(small(), (((("day", "mon"),), "go"),), filling), "none")
        # The word none may be told, ahead of others, too.
        told = (((("size", "big"),), "none"), ((("day", "tue"),), "go"))
        self.assertEqual(outcome(small(), told, filling), "none")
        self.assertEqual(outcome(small(), told, user("tue", "small", "one")), "go")

    def test_20_the_same_facts_several_times(self):
        told = (((("day", "tue"),), "a"), ((("day", "tue"),), "b"), ((("day", "mon"),), "c"))
        self.assertEqual(outcome(small(), told, user("tue", "big", "two")), "a")
        self.assertEqual(outcome(small(), told[1:], user("tue", "big", "two")), "b")
        self.assertEqual(outcome(small(), told[::-1], user("tue", "big", "two")), "b")

    def test_20_empty_facts(self):
        for filling in fillings(small(), ()):
            self.assertEqual(outcome(small(), (((), "all"),), filling), "all")
            self.assertEqual(outcome(small(), (((), "all"),) + SMALL_OUTCOMES, filling), "all")
            word = outcome(small(), SMALL_OUTCOMES, filling)
            told = outcome(small(), SMALL_OUTCOMES + (((), "all"),), filling)
            self.assertEqual(told, "all" if word == "none" else word)

    def test_20_facts_in_any_sequence_and_facts_that_clash(self):
        told = (((("day", "mon"), ("size", "big")), "never"), ((("hour", "two"), ("size", "big"), ("day", "tue")), "go"))
        self.assertEqual(outcome(small(), told, user("tue", "big", "two")), "go")
        self.assertEqual(outcome(small(), told, user("tue", "big", "one")), "none")

    def test_20_thirty_outcomes(self):
        filling = user("tue", "big", "two")
        told = (((("day", "mon"),), "a"),) * 29 + (((), "b"),)
        self.assertEqual(outcome(small(), told, filling), "b")
        self.assertEqual(settled(small(), told, (("day", "tue"),)), "b")
        self.assertEqual(least_questions(small(), told), 1)
        for call in (outcome, settled):
            self.assert_bad(1, call, small(), told + (((), "b"),), filling)

    def test_20_lists(self):
        for filling in fillings(small(), ()):
            word = outcome(small(), SMALL_OUTCOMES, filling)
            self.assertEqual(outcome(small(), listed(SMALL_OUTCOMES), listed(filling)), word)
            self.assertEqual(outcome(small(), SMALL_OUTCOMES, list(filling)), word)
            self.assertEqual(outcome(small(), [list(pair) for pair in SMALL_OUTCOMES], filling), word)

    def test_20_what_are_no_outcomes(self):
        filling = user("tue", "big", "two")
        for thing in no_outcomes():
            self.assert_bad(1, outcome, small(), thing, filling)
            self.assert_bad(1, settled, small(), thing, ())
            self.assert_bad(1, least_questions, small(), thing)
            self.assert_bad(1, best_plan, small(), thing)
            self.assert_bad(1, witness, small(), thing, 1)

    def test_20_what_is_no_filling(self):
        filling = user("tue", "big", "one")
        things = odd_facts() + wrong_facts() + [(), [], filling[:2], filling[1:], filling[::-1], filling + filling[:1]]
        things += [user("mon", "big", "one"), user("tue", "small", "two"), user("tue", "big", "four"), (filling,)]
        for thing in things:
            self.assert_bad(2, outcome, small(), SMALL_OUTCOMES, thing)
        self.assert_bad(2, outcome, barren(), SMALL_OUTCOMES, filling)

    def test_20_the_first_wrong_argument(self):
        self.assert_bad(1, outcome, small(), None, None)
        self.assert_bad(1, settled, small(), None, None)
        self.assert_bad(1, witness, small(), None, None)
        self.assert_bad(1, witness, barren(), None, 9)

    def test_20_as_told_plainly(self):
        for seed in range(80):
            fields, rules, outcomes = random_outcomes(seed)
            form = Form(fields, rules)
            for filling in fillings(form, ()):
                self.assertEqual(outcome(form, outcomes, filling), plain_outcome(outcomes, filling))


class TestSettled(ErrorCase):

    def test_20_one_outcome(self):
        self.assertEqual(settled(small(), SMALL_OUTCOMES, (("size", "big"),)), "go")
        self.assertEqual(settled(small(), SMALL_OUTCOMES, (("day", "tue"), ("hour", "one"))), "go")
        self.assertEqual(settled(small(), SMALL_OUTCOMES, (("hour", "one"), ("day", "mon"))), "wait")
        self.assertEqual(settled(small(), SMALL_OUTCOMES, (("size", "small"), ("hour", "three"))), "none")
        self.assertEqual(settled(small(), (), ()), "none")
        self.assertEqual(settled(small(), (((), "go"),), ()), "go")
        self.assertEqual(settled(small(), SMALL_OUTCOMES, user("tue", "small", "three")), "none")

    def test_20_unlike_outcomes(self):
        for facts in ((), (("day", "mon"),), (("day", "tue"),), (("hour", "one"),), (("hour", "three"),)):
            self.assertIsNone(settled(small(), SMALL_OUTCOMES, facts))

    def test_20_no_filling(self):
        for facts in ((("day", "mon"), ("size", "big")), (("size", "small"), ("hour", "two")), user("mon", "big", "one")):
            self.assertIsNone(settled(small(), SMALL_OUTCOMES, facts))
            self.assertIsNone(settled(small(), (), facts))
        self.assertIsNone(settled(barren(), (), ()))
        self.assertIsNone(settled(barren(), (((), "go"),), (("day", "mon"),)))

    def test_20_lists(self):
        for facts in ((("size", "big"),), (("hour", "one"), ("day", "mon")), ()):
            self.assertEqual(settled(small(), listed(SMALL_OUTCOMES), listed(facts)),
                             settled(small(), SMALL_OUTCOMES, facts))

    def test_20_what_are_no_facts(self):
        for thing in odd_facts() + wrong_facts():
            self.assert_bad(2, settled, small(), SMALL_OUTCOMES, thing)

    def test_20_as_told_plainly(self):
        kinds = {}
        for seed in range(200):
            fields, rules, outcomes = random_outcomes(seed)
            facts = random_facts(Random(seed), fields, 0, 4)
            words = PlainSearch(fields, rules, outcomes).words(facts)
            told = settled(Form(fields, rules), outcomes, facts)
            self.assertEqual(told, words.pop() if len(words) == 1 else None)
            kinds[told] = True
        self.assertEqual(len(kinds), 5)


class TestLeastQuestions(ErrorCase):

    def test_22_settled_at_the_root(self):
        for told in ((), (((), "go"),), (((("day", "mon"), ("size", "big")), "never"),)):
            self.assertEqual(least_questions(small(), told), 0)
            self.assertEqual(best_plan(small(), told), "tell " + ("go" if told == (((), "go"),) else "none") + "\n")

    def test_22_a_small_form(self):
        self.assertEqual(least_questions(small(), SMALL_OUTCOMES), 2)
        self.assertEqual(least_questions(small(), SMALL_OUTCOMES[:1]), 1)
        self.assertEqual(least_questions(small(), SMALL_OUTCOMES[2:]), 1)
        self.assertEqual(least_questions(small(), SMALL_OUTCOMES[1:]), 2)

    def test_22_all_the_fields(self):
        for many in range(1, 7):
            form = of_fields(*[2] * many)
            self.assertEqual(least_questions(form, all_v(form)), many)
            self.assertEqual(least_questions(form, all_v(form)[:1] + (((), "yes"),)), 0)

    def test_22_no_fillings_ahead_of_too_many(self):
        for call in (least_questions, best_plan):
            with self.assertRaises(NothingThere) as caught:
                call(barren(), SMALL_OUTCOMES)
            self.assertEqual(caught.exception.word, "filling")
            # The ways to fill it are 1,000, but none breaks no rule.
            form = Form(WIDE_FIELDS, tuple((("eel", value),) for value in ("v", "w")))
            self.assertRaises(NothingThere, call, form, ())

    def test_22_a_hundred_fillings(self):
        form = of_fields(5, 5, 4)
        self.assertEqual(least_questions(form, all_v(form)), 3)
        self.assertEqual(best_plan(form, ()), "tell none\n")

    def test_22_more_than_a_hundred(self):
        for form in (of_fields(5, 5, 5), Form(WIDE_FIELDS, ()), of_fields(3, 3, 3, 4), of_fields(2, 2, 2, 2, 2, 4),
                     Form(of_fields(5, 5, 5).fields(), ((("a", "v"), ("b", "v")),))):
            self.assertGreater(len(fillings(form, ())), 100)
            for call in (least_questions, best_plan):
                with self.assertRaises(TooMany) as caught:
                    call(form, ())
                self.assertEqual(caught.exception.word, "fillings")

    def test_22_one_more_than_a_hundred(self):
        fields = of_fields(5, 5, 5).fields()
        # The first four bar five fillings each, each of the others one.
        bars = [(("a", a), ("b", b)) for a in "yz" for b in "vw"] + [(("a", "v"), ("b", "v"), ("c", c)) for c in "vwxyz"]
        self.assertEqual(len(fillings(Form(fields, bars[:8]), ())), 101)
        with self.assertRaises(TooMany) as caught:
            least_questions(Form(fields, bars[:8]), ())
        self.assertEqual(caught.exception.word, "fillings")
        self.assertEqual(len(fillings(Form(fields, bars), ())), 100)
        self.assertEqual(least_questions(Form(fields, bars), ()), 0)
        self.assertEqual(least_questions(Form(fields, bars), (((("a", "y"), ("c", "z")), "x"),)), 2)

    def test_22_as_found_plainly(self):
        found = {}
        for seed in range(150):
            fields, rules, outcomes = random_outcomes(seed)
            search = PlainSearch(fields, rules, outcomes)
            if not 1 <= len(search.rows) <= 100:
                continue
            least = least_questions(Form(fields, rules), outcomes)
            self.assertEqual(least, search.depth(), (fields, rules, outcomes))
            found[least] = found.get(least, 0) + 1
        self.assertGreater(min(found.get(many, 0) for many in (0, 1, 2, 3)), 5, found)


class TestBestPlan(ErrorCase):

    def test_22_the_small_form(self):
        self.assertEqual(best_plan(small(), SMALL_OUTCOMES[:1]), "ask size\ntell go\ntell none\n")
        self.assertEqual(best_plan(small(), SMALL_OUTCOMES), (
            "ask hour\nask day\ntell wait\ntell go\ntell go\nask size\ntell go\ntell none\n"))

    def test_22_in_another_sequence_than_the_forms(self):
        # The last field settles it in all cases but one, and then it is the first one.
        form = of_fields(2, 2, 3)
        told = (((("c", "v"), ("a", "v")), "x"), ((("c", "v"),), "y"), ((("c", "w"),), "z"))
        self.assertEqual(best_plan(form, told), "ask a\nask c\ntell x\ntell z\ntell none\nask c\ntell y\ntell z\ntell none\n")
        form = of_fields(2, 2, 3)
        told = (((("c", "v"), ("a", "v")), "x"), ((("c", "v"),), "y"), ((("c", "w"), ("b", "v")), "z"))
        self.assertEqual(best_plan(form, told), (
            "ask c\nask a\ntell x\ntell y\nask b\ntell z\ntell none\ntell none\n"))

    def test_22_the_first_field_that_is_as_good(self):
        form = of_fields(2, 2)
        told = (((("a", "v"), ("b", "v")), "x"), ((("a", "w"), ("b", "w")), "x"))
        self.assertEqual(best_plan(form, told), "ask a\nask b\ntell x\ntell none\nask b\ntell none\ntell x\n")

    def test_22_least_depth_of_each_part(self):
        # In the part of `a v` one question would do, though two are let by the other part.
        form = of_fields(2, 2, 2, 2)
        told = (((("a", "v"), ("d", "v")), "x"), ((("a", "w"), ("b", "v"), ("c", "v")), "y"))
        self.assertEqual(best_plan(form, told), (
            "ask a\nask d\ntell x\ntell none\nask b\nask c\ntell y\ntell none\ntell none\n"))

    def test_22_a_field_with_just_one_possible_value(self):
        form = Form((("one", ("v",)), ("a", ("v", "w")), ("b", ("v", "w"))), ((("a", "v"), ("b", "v")),))
        told = (((("one", "v"), ("b", "v")), "x"), ((("a", "v"),), "y"))
        self.assertEqual(best_plan(form, told), "ask a\ntell y\nask b\ntell x\ntell none\n")
        self.assertEqual(least_questions(form, told), 2)

    def test_22_a_value_that_is_not_possible_has_no_kid(self):
        form = Form((("a", ("v", "w", "x")),), ((("a", "w"),),))
        self.assertEqual(best_plan(form, (((("a", "x"),), "go"),)), "ask a\ntell none\ntell go\n")

    def test_22_as_found_plainly(self):
        asked = 0
        for seed in range(300):
            fields, rules, outcomes = random_outcomes(seed)
            search = PlainSearch(fields, rules, outcomes)
            if not 1 <= len(search.rows) <= 100:
                continue
            plan = best_plan(Form(fields, rules), outcomes)
            self.assertEqual(plan, "".join(line + "\n" for line in search.plan()))
            self.assertEqual(plan_holds(Form(fields, rules), outcomes, plan), search.depth())
            asked += plan.count("ask")
        self.assertGreater(asked, 200)

    def test_22_many_fillings_in_good_time(self):
        chance = Random(7)
        for numbers in ((2, 2, 2, 2, 2, 3), (5, 5, 4), (5, 5, 2, 2, 1, 1), (3, 3, 3, 3, 1, 1)):
            form = of_fields(*numbers)
            outcomes = [(random_facts(chance, form.fields(), 2, 5), chance.choice("xyz")) for _ in range(30)]
            least = least_questions(form, outcomes)
            self.assertEqual(plan_holds(form, outcomes, best_plan(form, outcomes)), least)
            for k in range(1, least + 1):
                self.assertIs(witness_holds(form, outcomes, k, witness(form, outcomes, k)), True)


class TestWitness(ErrorCase):

    def assert_none(self, form, outcomes, k):
        with self.assertRaises(NothingThere) as caught:
            witness(form, outcomes, k)
        self.assertEqual(caught.exception.word, "witness")

    def test_25_the_first_pair_of_fillings(self):
        self.assertEqual(witness(small(), SMALL_OUTCOMES, 1), "both mon small one / mon small three\n")
        self.assertEqual(witness(small(), SMALL_OUTCOMES[:1], 1), "both mon small one / tue big one\n")

    def test_25_for_two(self):
        self.assertEqual(witness(small(), SMALL_OUTCOMES, 2), (
            "node\n"
            "if day mon\nboth mon small one / mon small three\n"
            "if size small\nboth mon small one / mon small three\n"
            "if hour one\nboth mon small one / tue big one\n"))

    def test_25_for_three(self):
        form = of_fields(2, 2, 2)
        self.assertEqual(witness(form, all_v(form), 3), (
            "node\n"
            "if a v\nnode\nif b v\nboth v v v / v v w\nif c v\nboth v v v / v w v\n"
            "if b v\nnode\nif a v\nboth v v v / v v w\nif c v\nboth v v v / w v v\n"
            "if c v\nnode\nif a v\nboth v v v / v w v\nif b v\nboth v v v / w v v\n"))

    def test_25_each_value_is_the_first_with_which_it_can_be_done(self):
        form = of_fields(2, 2, 2)
        told = ((tuple((name, "w") for name in "abc"), "yes"),)
        self.assertEqual(witness(form, told, 2), (
            "node\n"
            "if a w\nboth w v v / w w w\n"
            "if b w\nboth v w v / w w w\n"
            "if c w\nboth v v w / w w w\n"))

    def test_25_above_the_least(self):
        for k in (3, 4, 5, 6):
            self.assert_none(small(), SMALL_OUTCOMES, k)
        for k in range(1, 7):
            self.assert_none(small(), (), k)
        form = of_fields(2, 2, 2, 2, 2, 2)
        self.assertTrue(witness(form, all_v(form), 6))
        form = of_fields(2, 2, 2, 2, 2)
        self.assertTrue(witness(form, all_v(form), 5))
        self.assert_none(form, all_v(form), 6)

    def test_25_what_is_no_number_from_1_to_6(self):
        things = [odd for odd in ODD_THINGS if isinstance(odd, bool) or odd not in (1, 2)]
        for k in things + [7, -1, 0, 10 ** 30, (), [], [1], (1,), "1", True, False, None, "two"]:
            self.assert_bad(2, witness, small(), SMALL_OUTCOMES, k)
            self.assert_bad(2, witness, small(), (), k)
            self.assert_bad(2, witness, barren(), SMALL_OUTCOMES, k)
            self.assert_bad(2, witness, Form(WIDE_FIELDS, ()), (), k)

    def test_25_the_order_of_errors(self):
        for k in range(1, 7):
            with self.assertRaises(NothingThere) as caught:
                witness(barren(), SMALL_OUTCOMES, k)
            self.assertEqual(caught.exception.word, "filling")
            with self.assertRaises(TooMany) as too_many:
                witness(Form(WIDE_FIELDS, ()), (), k)
            self.assertEqual(too_many.exception.word, "fillings")

    def test_25_as_found_plainly(self):
        found = {}
        for seed in range(150):
            fields, rules, outcomes = random_outcomes(seed)
            form, search = Form(fields, rules), PlainSearch(fields, rules, outcomes)
            if not 1 <= len(search.rows) <= 100:
                continue
            for k in range(1, 7):
                self.assertEqual(k <= least_questions(form, outcomes), search.can_show(k - 1))
                if search.can_show(k - 1):
                    paper = witness(form, outcomes, k)
                    self.assertEqual(paper, "".join(line + "\n" for line in search.witness(k - 1)))
                    self.assertIs(witness_holds(form, outcomes, k, paper), True)
                    found[k] = found.get(k, 0) + 1
                else:
                    self.assert_none(form, outcomes, k)
        self.assertGreater(min(found.get(k, 0) for k in (1, 2, 3)), 5, found)


class TestBasics(ErrorCase):

    def test_1_by_position_and_by_name(self):
        filling = user("tue", "big", "two")
        self.assertEqual(outcome(filling=filling, outcomes=SMALL_OUTCOMES, form=small()), "go")
        self.assertEqual(settled(facts=(("size", "big"),), outcomes=SMALL_OUTCOMES, form=small()), "go")
        self.assertEqual(least_questions(outcomes=SMALL_OUTCOMES, form=small()), 2)
        self.assertEqual(best_plan(outcomes=(), form=small()), "tell none\n")
        self.assertEqual(witness(k=2, outcomes=SMALL_OUTCOMES, form=small()), witness(small(), SMALL_OUTCOMES, 2))

    def test_1_arguments_stay_as_they_were(self):
        told, filling = listed(SMALL_OUTCOMES), listed(user("tue", "big", "two"))
        kept = copy.deepcopy((told, filling))
        form = small()
        for _ in range(2):
            self.assertEqual(outcome(form, told, filling), "go")
            self.assertEqual(settled(form, told, filling), "go")
            self.assertEqual(least_questions(form, told), 2)
            self.assertEqual(best_plan(form, told), best_plan(small(), SMALL_OUTCOMES))
            self.assertEqual(witness(form, told, 2), witness(small(), SMALL_OUTCOMES, 2))
            self.assertEqual((told, filling), kept)
        self.assertEqual(form, small())

    def test_1_no_deep_nesting_of_calls(self):
        form = of_fields(2, 2, 2, 2, 2, 2)
        with shallow_calls():
            least = least_questions(form, all_v(form))
            plan = best_plan(form, all_v(form))
            paper = witness(form, all_v(form), 6)
            depth = plan_holds(form, all_v(form), plan)
            holds = witness_holds(form, all_v(form), 6, paper)
        self.assertEqual((least, depth, holds), (6, 6, True))

    def test_1_defined_in_their_file(self):
        for function in (outcome, settled, least_questions, best_plan, witness):
            self.assertEqual(function.__module__, "sayfill.plans")


if __name__ == "__main__":
    unittest.main()
