"""Promises [1], [4], [5] and [6]: the functions of sayfill/filling.py."""

import copy
import unittest
from itertools import permutations
from random import Random

from sayfill import filling
from sayfill.errors import BadField, BadValue
from sayfill.filling import clash, fillings, forced, open_fields, possible, two_ways
from sayfill.forms import Form

from helpers import (
    EMPTY_ROWS, ODD_THINGS, SMALL_FIELDS, SMALL_RULES, listed, odd_facts, only_tuples, plain_clash, plain_fillings,
    random_facts, random_parts, shallow_calls, wrong_facts,
)

FACTS_ALONE = (fillings, open_fields, forced, clash)
WITH_FIELD = (possible, two_ways)


def small():
    """Three fields; seven of the twelve ways to fill them break no rule."""
    return Form(SMALL_FIELDS, SMALL_RULES)


def barren():
    """A form without any filling, though each rule lets some values stand."""
    fields = (("day", ("mon", "tue")), ("size", ("big", "small")))
    return Form(fields, [(("day", "mon"),), (("size", "big"), ("day", "tue")), (("size", "small"), ("day", "tue"))])


def pairs_of(text):
    """The facts that are written as `F V, F V`."""
    return tuple(tuple(pair.split()) for pair in text.split(", ")) if text else ()


def filled(day, size, hour):
    """A filling of the form of small()."""
    return (("day", day), ("size", size), ("hour", hour))


ALL_OF_SMALL = (
    filled("mon", "small", "one"), filled("mon", "small", "three"),
    filled("tue", "big", "one"), filled("tue", "big", "two"), filled("tue", "big", "three"),
    filled("tue", "small", "one"), filled("tue", "small", "three"),
)


class FillingCase(unittest.TestCase):

    def assert_no_facts(self, call, *rest):
        form = small()
        for thing in odd_facts() + wrong_facts():
            with self.assertRaises(BadValue, msg=repr(thing)[:300]) as caught:
                call(form, thing, *rest)
            self.assertEqual(caught.exception.at, 1)
            self.assertIs(type(caught.exception.at), int)
        with self.assertRaises(BadValue):
            call(Form((("a", ("b",)),), ()), ("ab",), *rest)

    def assert_no_field(self, call):
        form = small()
        things = ("days", "da", "mon", "big", "DAY", ("day",), ["day"], (("day", "mon"),)) + ODD_THINGS + EMPTY_ROWS
        for thing in things:
            for facts in ((), (("day", "mon"), ("size", "big"))):
                with self.assertRaises(BadField) as caught:
                    call(form, facts, thing)
                self.assertIs(caught.exception.name, thing)

    def assert_same_for_all_sequences(self, call, *rest):
        form = small()
        for text in ("day mon, size small", "hour two, day tue", "day tue, size small, hour three",
                     "day mon, size big, hour two"):
            facts = pairs_of(text)
            result = call(form, facts, *rest)
            for turned in permutations(facts):
                self.assertEqual(call(form, turned, *rest), result)
                self.assertEqual(call(form, list(turned), *rest), result)
                self.assertEqual(call(form, listed(turned), *rest), result)
                self.assertEqual(call(form, tuple(listed(turned)), *rest), result)


class TestFillings(FillingCase):

    def test_4_no_facts(self):
        self.assertEqual(fillings(small(), ()), ALL_OF_SMALL)
        self.assertEqual(fillings(small(), []), ALL_OF_SMALL)

    def test_4_some_facts(self):
        self.assertEqual(fillings(small(), pairs_of("day mon")), ALL_OF_SMALL[:2])
        self.assertEqual(fillings(small(), pairs_of("day tue")), ALL_OF_SMALL[2:])
        self.assertEqual(fillings(small(), pairs_of("hour two")), ALL_OF_SMALL[3:4])
        self.assertEqual(fillings(small(), pairs_of("hour three")),
                         (ALL_OF_SMALL[1], ALL_OF_SMALL[4], ALL_OF_SMALL[6]))
        self.assertEqual(fillings(small(), pairs_of("hour one, size small")), (ALL_OF_SMALL[0], ALL_OF_SMALL[5]))

    def test_4_all_facts(self):
        for row in ALL_OF_SMALL:
            self.assertEqual(fillings(small(), row), (row,))
            self.assertEqual(fillings(small(), row[::-1]), (row,))

    def test_4_facts_that_clash(self):
        for text in ("day mon, size big", "size big, day mon", "size small, hour two", "day mon, hour two",
                     "day mon, size big, hour one", "hour two, size small, day tue"):
            self.assertEqual(fillings(small(), pairs_of(text)), ())
            self.assertEqual(fillings(small(), listed(pairs_of(text))), ())

    def test_4_facts_in_any_sequence(self):
        self.assert_same_for_all_sequences(fillings)

    def test_4_the_order_is_that_of_places(self):
        form = Form((("day", ("tue", "mon")), ("ape", ("z", "a", "m"))), ())
        rows = [(("day", day), ("ape", ape)) for day in ("tue", "mon") for ape in ("z", "a", "m")]
        self.assertEqual(fillings(form, ()), tuple(rows))

    def test_4_no_rules_and_many_fillings(self):
        fields = tuple((name, tuple("zyxwv")[:many]) for name, many in zip("fedcb", (5, 5, 5, 4, 2)))
        self.assertEqual(len(fillings(Form(fields, ()), ())), 1000)
        self.assertEqual(fillings(Form(fields, ()), ()), plain_fillings(fields, (), ()))

    def test_4_rules_of_1_to_4_pairs(self):
        fields = tuple((name, ("v", "w")) for name in ("ape", "bee", "cat", "dog", "eel", "fox"))
        rule = (("ape", "w"), ("bee", "v"), ("dog", "w"), ("fox", "v"))
        for many in range(1, 5):
            for rules in ((rule[:many],), (rule[4 - many:],), (rule[:many], rule[1:3])):
                found = fillings(Form(fields, rules), ())
                self.assertEqual(found, plain_fillings(fields, rules, ()))
                self.assertLess(len(found), 64)

    def test_4_unlike_fields_with_values_alike(self):
        form = Form((("ape", ("v", "w")), ("bee", ("v", "w"))), ((("ape", "v"), ("bee", "w")),))
        rows = tuple((("ape", one), ("bee", other)) for one, other in ("vv", "wv", "ww"))
        self.assertEqual(fillings(form, ()), rows)
        self.assertEqual(fillings(form, (("bee", "v"),)), rows[:2])

    def test_4_one_field_of_one_value(self):
        self.assertEqual(fillings(Form((("a", ("b",)),), ()), ()), ((("a", "b"),),))

    def test_4_a_form_without_any_filling(self):
        self.assertEqual(fillings(barren(), ()), ())
        self.assertEqual(fillings(barren(), pairs_of("day tue")), ())
        self.assertEqual(fillings(Form((("a", ("b",)),), ((("a", "b"),),)), ()), ())

    def test_4_what_are_no_facts(self):
        self.assert_no_facts(fillings)

    def test_4_as_found_by_trying_all(self):
        for seed in range(150):
            fields, rules = random_parts(seed)
            facts = random_facts(Random(seed), fields, 0, 5)
            found = fillings(Form(fields, rules), facts)
            self.assertEqual(found, plain_fillings(fields, rules, facts), (fields, rules, facts))
            self.assertTrue(only_tuples(found))


class TestPossible(FillingCase):

    def test_5_without_facts(self):
        self.assertEqual(possible(small(), (), "day"), ("mon", "tue"))
        self.assertEqual(possible(small(), (), "size"), ("big", "small"))
        self.assertEqual(possible(small(), (), "hour"), ("one", "two", "three"))

    def test_5_with_facts(self):
        self.assertEqual(possible(small(), pairs_of("day mon"), "day"), ("mon",))
        self.assertEqual(possible(small(), pairs_of("day mon"), "size"), ("small",))
        self.assertEqual(possible(small(), pairs_of("day mon"), "hour"), ("one", "three"))
        self.assertEqual(possible(small(), pairs_of("hour two"), "day"), ("tue",))
        self.assertEqual(possible(small(), pairs_of("day tue, hour three"), "size"), ("big", "small"))

    def test_5_in_the_sequence_of_the_field(self):
        form = Form((("ape", ("v", "w")), ("bee", ("z", "a", "m"))), ((("ape", "v"), ("bee", "z")),))
        self.assertEqual(possible(form, (), "bee"), ("z", "a", "m"))
        self.assertEqual(possible(form, pairs_of("ape v"), "bee"), ("a", "m"))

    def test_5_where_nothing_fits(self):
        for name in ("day", "size", "hour"):
            self.assertEqual(possible(small(), pairs_of("day mon, size big"), name), ())
            self.assertEqual(possible(small(), pairs_of("size small, hour two"), name), ())
        self.assertEqual(possible(barren(), (), "day"), ())

    def test_5_a_value_that_is_in_no_filling(self):
        form = Form((("ape", ("v", "w")), ("bee", ("v", "w"))), ((("ape", "w"),),))
        self.assertEqual(possible(form, (), "ape"), ("v",))
        self.assertEqual(possible(form, pairs_of("ape w"), "bee"), ())

    def test_5_facts_in_any_sequence(self):
        for name in ("day", "size", "hour"):
            self.assert_same_for_all_sequences(possible, name)

    def test_5_what_are_no_facts(self):
        self.assert_no_facts(possible, "day")

    def test_5_what_is_no_field(self):
        self.assert_no_field(possible)

    def test_5_no_facts_ahead_of_no_field(self):
        self.assert_no_facts(possible, "days")
        self.assert_no_facts(possible, None)
        self.assert_no_facts(possible, [])


class TestTwoWays(FillingCase):

    def test_5_the_first_and_the_first_with_another_value(self):
        self.assertEqual(two_ways(small(), (), "day"), (ALL_OF_SMALL[0], ALL_OF_SMALL[2]))
        self.assertEqual(two_ways(small(), (), "size"), (ALL_OF_SMALL[0], ALL_OF_SMALL[2]))
        self.assertEqual(two_ways(small(), (), "hour"), (ALL_OF_SMALL[0], ALL_OF_SMALL[1]))
        self.assertEqual(two_ways(small(), pairs_of("day tue"), "size"), (ALL_OF_SMALL[2], ALL_OF_SMALL[5]))
        self.assertEqual(two_ways(small(), pairs_of("size small"), "day"), (ALL_OF_SMALL[0], ALL_OF_SMALL[5]))

    def test_5_none_where_there_is_one_value(self):
        self.assertIsNone(two_ways(small(), pairs_of("day mon"), "day"))
        self.assertIsNone(two_ways(small(), pairs_of("day mon"), "size"))
        self.assertIsNone(two_ways(small(), ALL_OF_SMALL[3], "hour"))
        self.assertIsNone(two_ways(Form((("a", ("b",)),), ()), (), "a"))

    def test_5_none_where_nothing_fits(self):
        for name in ("day", "size", "hour"):
            self.assertIsNone(two_ways(small(), pairs_of("day mon, size big"), name))
        self.assertIsNone(two_ways(barren(), (), "size"))

    def test_5_two_ways_facts_in_any_sequence(self):
        for name in ("day", "size", "hour"):
            self.assert_same_for_all_sequences(two_ways, name)

    def test_5_two_ways_what_are_no_facts(self):
        self.assert_no_facts(two_ways, "day")

    def test_5_two_ways_what_is_no_field(self):
        self.assert_no_field(two_ways)

    def test_5_two_ways_no_facts_ahead_of_no_field(self):
        self.assert_no_facts(two_ways, "days")
        self.assert_no_facts(two_ways, None)
        self.assert_no_facts(two_ways, [])


class TestOpenAndForced(FillingCase):

    def test_5_without_facts_all_is_open(self):
        self.assertEqual(open_fields(small(), ()), ("day", "size", "hour"))
        self.assertEqual(forced(small(), ()), ())

    def test_5_facts_and_what_follows_are_forced(self):
        self.assertEqual(open_fields(small(), pairs_of("day mon")), ("hour",))
        self.assertEqual(forced(small(), pairs_of("day mon")), pairs_of("day mon, size small"))
        self.assertEqual(open_fields(small(), pairs_of("hour two")), ())
        self.assertEqual(forced(small(), pairs_of("hour two")), pairs_of("day tue, size big, hour two"))
        self.assertEqual(open_fields(small(), pairs_of("hour one, day tue")), ("size",))
        self.assertEqual(forced(small(), pairs_of("hour one, day tue")), pairs_of("day tue, hour one"))

    def test_5_in_the_sequence_of_fields(self):
        form = Form((("fox", ("v", "w")), ("ape", ("v", "w")), ("bee", ("v", "w")), ("ant", ("v",))), ())
        self.assertEqual(open_fields(form, ()), ("fox", "ape", "bee"))
        self.assertEqual(forced(form, pairs_of("bee w, fox v")), pairs_of("fox v, bee w, ant v"))
        self.assertEqual(forced(form, pairs_of("bee w, ape w, fox v")), pairs_of("fox v, ape w, bee w, ant v"))

    def test_5_a_full_filling_is_forced(self):
        for row in ALL_OF_SMALL:
            self.assertEqual(open_fields(small(), row[::-1]), ())
            self.assertEqual(forced(small(), row[::-1]), row)

    def test_5_nothing_where_nothing_fits(self):
        for form, facts in ((small(), pairs_of("day mon, size big")), (barren(), ()), (barren(), pairs_of("day tue"))):
            self.assertEqual(open_fields(form, facts), ())
            self.assertEqual(forced(form, facts), ())

    def test_5_open_and_forced_facts_in_any_sequence(self):
        self.assert_same_for_all_sequences(open_fields)
        self.assert_same_for_all_sequences(forced)

    def test_5_open_and_forced_what_are_no_facts(self):
        self.assert_no_facts(open_fields)
        self.assert_no_facts(forced)

    def test_5_as_found_by_trying_all(self):
        for seed in range(150):
            fields, rules = random_parts(seed)
            facts = random_facts(Random(seed), fields, 0, 3)
            form, rows = Form(fields, rules), plain_fillings(fields, rules, facts)
            opened, fixed = [], []
            for name, values in fields:
                found = tuple(value for value in values if any((name, value) in row for row in rows))
                self.assertEqual(possible(form, facts, name), found)
                pair = two_ways(form, facts, name)
                self.assertEqual(pair is not None, len(found) > 1)
                if pair:
                    others = [row for row in rows if dict(row)[name] != dict(rows[0])[name]]
                    self.assertEqual(pair, (rows[0], others[0]))
                opened += [name] * (len(found) > 1)
                fixed += [(name, found[0])] if len(found) == 1 else []
            self.assertEqual(open_fields(form, facts), tuple(opened))
            self.assertEqual(forced(form, facts), tuple(fixed))


class TestClash(FillingCase):

    def test_6_none_where_some_filling_fits(self):
        self.assertIsNone(clash(small(), ()))
        self.assertIsNone(clash(small(), []))
        self.assertIsNone(clash(small(), pairs_of("day mon, hour three")))
        for row in ALL_OF_SMALL:
            self.assertIsNone(clash(small(), row))

    def test_6_the_pairs_of_one_rule(self):
        self.assertEqual(clash(small(), pairs_of("day mon, size big")), pairs_of("day mon, size big"))
        self.assertEqual(clash(small(), pairs_of("size big, hour one, day mon")), pairs_of("day mon, size big"))
        self.assertEqual(clash(small(), pairs_of("hour two, day tue, size small")), pairs_of("size small, hour two"))

    def test_6_what_several_rules_do_together(self):
        self.assertEqual(clash(small(), pairs_of("hour two, day mon")), pairs_of("day mon, hour two"))
        rules = [(("day", "mon"), ("size", "big")), (("day", "mon"), ("size", "small"))]
        form = Form(SMALL_FIELDS, rules)
        self.assertEqual(clash(form, pairs_of("size big, day mon")), pairs_of("day mon"))
        self.assertEqual(clash(form, pairs_of("hour one, day mon")), pairs_of("day mon"))

    def test_6_the_least_lot(self):
        fields = tuple((name, ("v", "w")) for name in ("ape", "bee", "cat", "dog", "eel", "fox"))
        longer = pairs_of("ape v, bee v, cat v")
        shorter = pairs_of("eel v, fox v")
        facts = tuple((name, "v") for name, _ in fields)
        self.assertEqual(clash(Form(fields, (longer,)), facts), longer)
        self.assertEqual(clash(Form(fields, (longer, shorter)), facts), shorter)
        self.assertEqual(clash(Form(fields, (longer, shorter, pairs_of("fox v"))), facts), pairs_of("fox v"))
        four = pairs_of("bee v, cat v, dog v, fox v")
        self.assertEqual(clash(Form(fields, (four,)), facts[::-1]), four)

    def test_6_the_first_of_the_least_lots(self):
        fields = tuple((name, ("v", "w")) for name in ("fox", "eel", "dog", "cat", "bee", "ape"))
        facts = tuple((name, "v") for name, _ in fields)
        first, second, third = pairs_of("fox v, cat v"), pairs_of("eel v, dog v"), pairs_of("eel v, ape v")
        for rules in permutations((first, second, third)):
            for turned in (facts, facts[::-1], facts[3:] + facts[:3]):
                self.assertEqual(clash(Form(fields, rules), turned), first)
        self.assertEqual(clash(Form(fields, (third, second)), facts), second)
        self.assertEqual(clash(Form(fields, (second, first)), facts[1:]), second)

    def test_6_a_lot_longer_than_any_rule(self):
        fields = tuple((name, ("v", "w", "x")) for name in ("ape", "bee", "cat", "dog", "eel", "fox"))
        # Together the rules leave no value of the cat, which is told by no fact.
        rules = [pairs_of("ape v, bee v, cat v"), pairs_of("cat w, dog v"), pairs_of("cat x, eel v, fox v")]
        lot = pairs_of("ape v, bee v, dog v, eel v, fox v")
        self.assertEqual(clash(Form(fields, rules), lot), lot)
        self.assertEqual(clash(Form(fields, rules), lot[::-1]), lot)
        for at in range(5):
            self.assertIsNone(clash(Form(fields, rules), lot[:at] + lot[at + 1:]))

    def test_6_facts_in_any_sequence(self):
        self.assert_same_for_all_sequences(clash)

    def test_6_a_form_without_any_filling(self):
        for facts in ((), pairs_of("day mon"), pairs_of("day tue"), pairs_of("size big, day tue")):
            self.assertEqual(clash(barren(), facts), ())
            self.assertIs(type(clash(barren(), listed(facts))), tuple)

    def test_6_what_are_no_facts(self):
        self.assert_no_facts(clash)

    def test_6_as_found_by_trying_all(self):
        clashes = 0
        for seed in range(300):
            fields, rules = random_parts(seed)
            facts = random_facts(Random(seed), fields, 2, 5)
            lot = clash(Form(fields, rules), facts)
            self.assertEqual(lot, plain_clash(fields, rules, facts), (fields, rules, facts))
            clashes += lot is not None
        self.assertGreater(clashes, 50)


class TestBasics(FillingCase):

    def test_1_by_position_and_by_name(self):
        form, facts = small(), pairs_of("day tue, size small")
        for call in FACTS_ALONE:
            self.assertEqual(call(facts=facts, form=form), call(form, facts))
            self.assertEqual(call(form, facts=facts), call(form, facts))
        for call in WITH_FIELD:
            self.assertEqual(call(field="hour", facts=facts, form=form), call(form, facts, "hour"))
            self.assertEqual(call(form, facts, field="hour"), call(form, facts, "hour"))

    def test_1_equal_calls_give_equal_results(self):
        for facts in ((), pairs_of("day mon"), pairs_of("day mon, size big")):
            for call in FACTS_ALONE:
                self.assertEqual(call(small(), facts), call(small(), listed(facts)))
            for call in WITH_FIELD:
                self.assertEqual(call(small(), facts, "hour"), call(small(), listed(facts), "hour"))
        form = small()
        for call in FACTS_ALONE:
            self.assertEqual(call(form, ()), call(form, ()))

    def test_1_arguments_stay_as_they_were(self):
        for text in ("", "hour two, day tue", "size big, hour three, day mon"):
            form, facts = small(), listed(pairs_of(text))
            kept = copy.deepcopy(facts)
            for call in FACTS_ALONE:
                call(form, facts)
            for call in WITH_FIELD:
                call(form, facts, "size")
            self.assertEqual(facts, kept)
            self.assertEqual(form, small())

    def test_1_results_are_tuples_throughout(self):
        for text in ("", "hour three, day tue", "size big, hour three, day mon"):
            facts = listed(pairs_of(text))
            results = [call(small(), facts) for call in FACTS_ALONE]
            results += [call(small(), facts, "size") for call in WITH_FIELD]
            for result in results:
                self.assertTrue(result is None or only_tuples(result), result)
            self.assertTrue(only_tuples(results[0]) and only_tuples(results[1]) and only_tuples(results[2]))

    def test_1_results_do_not_hang_on_later_changes(self):
        facts = [["size", "big"], ["day", "mon"]]
        lot = clash(small(), facts)
        facts[0][1] = "small"
        facts.pop()
        self.assertEqual(lot, pairs_of("day mon, size big"))

    def test_1_a_call_that_raises_changes_nothing(self):
        form, facts = small(), [["day", "mon"], ["day", "tue"]]
        for call in FACTS_ALONE:
            with self.assertRaises(BadValue):
                call(form, facts)
        with self.assertRaises(BadField):
            possible(form, facts[:1], "days")
        self.assertEqual(facts, [["day", "mon"], ["day", "tue"]])
        self.assertEqual(form, small())
        self.assertEqual(fillings(form, ()), ALL_OF_SMALL)

    def test_1_no_deep_nesting_of_calls(self):
        fields = tuple((name, tuple("vwxyz")[:many]) for name, many in zip("fedcba", (3, 3, 3, 3, 3, 4)))
        facts = tuple((name, "v") for name, _ in fields)
        with shallow_calls():
            form = Form(fields, (facts[:4],))
            rows = fillings(form, ())
            lot = clash(form, facts)
            opened = open_fields(form, facts[:3])
        self.assertEqual((len(rows), lot, opened), (960, facts[:4], ("c", "b", "a")))

    def test_1_defined_in_the_module(self):
        for call in FACTS_ALONE + WITH_FIELD:
            self.assertEqual(call.__module__, "sayfill.filling")
            self.assertIs(vars(filling)[call.__name__], call)


if __name__ == "__main__":
    unittest.main()
