"""Promises [1] and [3]: the class Form of sayfill/forms.py."""

import copy
import unittest

from sayfill.errors import BadValue, TooMany
from sayfill.forms import Form

from helpers import EMPTY_ROWS, ODD_THINGS, SMALL_FIELDS, SMALL_RULES, listed, odd_facts, only_tuples, wrong_facts

NAMES = ("ape", "bee", "cat", "dog", "eel", "fox", "gnu")
FIVE_VALUES = ("v", "w", "x", "y", "z")


def fields_of(*counts):
    """Fields with so many values each."""
    return tuple((NAMES[at], FIVE_VALUES[:count]) for at, count in enumerate(counts))


class FormCase(unittest.TestCase):

    def assert_bad(self, at, fields, rules):
        with self.assertRaises(BadValue, msg=repr((fields, rules))[:300]) as caught:
            Form(fields, rules)
        self.assertEqual(caught.exception.at, at)
        self.assertIs(type(caught.exception.at), int)

    def assert_too_many(self, fields, rules):
        with self.assertRaises(TooMany) as caught:
            Form(fields, rules)
        self.assertEqual(caught.exception.word, "fillings")


class TestFields(FormCase):

    def test_3_how_many_fields(self):
        for many in range(1, 7):
            fields = fields_of(*[2] * many)
            self.assertEqual(Form(fields, ()).fields(), fields)
        self.assert_bad(0, (), ())
        self.assert_bad(0, [], ())
        self.assert_bad(0, fields_of(*[1] * 7), ())

    def test_3_how_many_values(self):
        for many in range(1, 6):
            fields = fields_of(1, many)
            self.assertEqual(Form(fields, ()).fields(), fields)
        for values in ((), [], FIVE_VALUES + ("u",)):
            self.assert_bad(0, (("ape", values),), ())
            self.assert_bad(0, (("ape", ("v",)), ("bee", values)), ())

    def test_3_names_unlike(self):
        self.assert_bad(0, (("ape", ("v",)), ("ape", ("w",))), ())
        self.assert_bad(0, (("ape", ("v",)), ("bee", ("v",)), ["ape", ["v"]]), ())

    def test_3_values_unlike(self):
        self.assert_bad(0, (("ape", ("v", "v")),), ())
        self.assert_bad(0, (("ape", ("v",)), ("bee", ["v", "w", "v"])), ())

    def test_3_unlike_fields_with_values_alike(self):
        fields = (("ape", ("v", "w")), ("bee", ("v", "w", "ape")))
        self.assertEqual(Form(fields, ()).fields(), fields)
        self.assertEqual(Form((("ape", ("ape",)),), ()).fields(), (("ape", ("ape",)),))

    def test_3_words_of_1_to_8_letters(self):
        for word in ("a", "z", "m", "abcdefgh", "ijklmnop", "qrstuvwx", "yz"):
            self.assertEqual(Form(((word, ("v",)),), ()).fields(), ((word, ("v",)),))
            self.assertEqual(Form((("ape", (word,)),), ()).fields(), (("ape", (word,)),))
        for word in ("", "abcdefghi", "a" * 9, "a" * 16):
            self.assert_bad(0, ((word, ("v",)),), ())
            self.assert_bad(0, (("ape", (word,)),), ())

    def test_3_words_of_small_letters_alone(self):
        signs = [chr(code) for code in range(256) if not "a" <= chr(code) <= "z"]
        for sign in signs + ["\u0430", "\u03b1", "\uff41", "\u0131", "\U0001d41a"]:
            for word in (sign, "a" + sign, sign + "a", "a" + sign + "a"):
                self.assert_bad(0, ((word, ("v",)),), ())
                self.assert_bad(0, (("ape", ("v", word)),), ())

    def test_3_fields_are_pairs(self):
        for field in (("ape",), ("ape", ("v",), ("w",)), (), "ape", "ab", ("ape", "v"), ("ape", "vw"), ("v", "ape")):
            self.assert_bad(0, (field,), ())
            self.assert_bad(0, (("bee", ("v",)), field), ())
        self.assert_bad(0, ("ape", ("v",)), ())
        self.assert_bad(0, "ape", ())

    def test_1_fields_of_any_value(self):
        for odd in ODD_THINGS + EMPTY_ROWS:
            self.assert_bad(0, odd, ())
            self.assert_bad(0, (odd,), ())
            self.assert_bad(0, [odd, ("ape", ("v",))], ())
            self.assert_bad(0, (("ape", ("v",)), odd), ())
            self.assert_bad(0, ((odd, ("v",)),), ())
            self.assert_bad(0, (("ape", odd),), ())
            self.assert_bad(0, [["ape", [odd]]], ())
            self.assert_bad(0, (("ape", ("v", odd)),), ())
            self.assert_bad(0, (("ape", (odd, odd)),), ())


class TestRules(FormCase):

    def test_3_how_many_pairs(self):
        fields = fields_of(2, 2, 2, 2, 2)
        pairs = tuple((name, "v") for name, _ in fields)
        for many in range(1, 5):
            self.assertEqual(Form(fields, (pairs[:many],)).rules(), (pairs[:many],))
        for rule in ((), [], pairs):
            self.assert_bad(1, fields, (rule,))
            self.assert_bad(1, fields, (pairs[:1], rule))

    def test_3_how_many_rules(self):
        fields = fields_of(5, 5, 5)
        rules = tuple((("ape", one), ("bee", other)) for one in FIVE_VALUES for other in FIVE_VALUES)
        self.assertEqual(Form(fields, ()).rules(), ())
        self.assertEqual(Form(fields, []).rules(), ())
        self.assertEqual(Form(fields, rules[:20]).rules(), rules[:20])
        self.assert_bad(1, fields, rules[:21])
        self.assert_bad(1, fields, rules)

    def test_3_rules_counted_as_handed_in(self):
        rule = (("ape", "v"),)
        self.assertEqual(Form(fields_of(2), (rule,) * 20).rules(), (rule,))
        self.assert_bad(1, fields_of(2), (rule,) * 21)

    def test_3_one_field_twice(self):
        fields = fields_of(2, 2)
        self.assert_bad(1, fields, ((("ape", "v"), ("ape", "v")),))
        self.assert_bad(1, fields, ((("ape", "v"), ("ape", "w")),))
        self.assert_bad(1, fields, ((("ape", "v"), ("bee", "v"), ("ape", "w")),))

    def test_3_no_field_and_no_value(self):
        fields = (("ape", ("v", "w")), ("bee", ("x", "y")))
        for pair in (("cat", "v"), ("v", "ape"), ("ape", "x"), ("bee", "v"), ("ape", "ape"), ("ape", "z")):
            self.assert_bad(1, fields, ((pair,),))
            self.assert_bad(1, fields, ((("ape", "w"),), (("bee", "x"), pair),))

    def test_1_rules_of_any_value(self):
        for odd in ODD_THINGS:
            self.assert_bad(1, SMALL_FIELDS, odd)
        for odd in odd_facts() + wrong_facts() + [(), []]:
            self.assert_bad(1, SMALL_FIELDS, (odd,))
            self.assert_bad(1, SMALL_FIELDS, [SMALL_RULES[0], odd])
            self.assert_bad(1, SMALL_FIELDS, (odd, SMALL_RULES[0]))
        self.assert_bad(1, SMALL_FIELDS, ("day", "mon"))
        self.assert_bad(1, SMALL_FIELDS, SMALL_RULES[0])

    def test_1_a_string_is_no_sequence(self):
        self.assert_bad(0, ("ab",), ())
        self.assert_bad(0, (("a", "bc"),), ())
        self.assert_bad(1, (("a", ("b",)),), ("ab",))
        self.assert_bad(1, (("a", ("b",)),), (("ab",),))

    def test_3_pairs_told_in_the_sequence_of_fields(self):
        fields = fields_of(2, 2, 2, 2)
        rule = (("ape", "v"), ("bee", "w"), ("dog", "v"))
        for handed in (rule, rule[::-1], (rule[1], rule[2], rule[0]), listed(rule[::-1])):
            self.assertEqual(Form(fields, (handed,)).rules(), (rule,))
            self.assertEqual(Form(fields, (handed,)).fields(), fields)
        zoo = (("fox", ("w", "v")), ("ape", ("z", "y")))
        self.assertEqual(Form(zoo, ((("ape", "y"), ("fox", "v")),)).rules(), ((("fox", "v"), ("ape", "y")),))
        self.assertEqual(Form(zoo, ()).fields(), zoo)

    def test_3_rules_told_in_their_sequence_each_once(self):
        fields = fields_of(2, 2, 2)
        first, second, third = (("cat", "w"),), (("ape", "v"), ("bee", "v")), (("ape", "v"),)
        rules = (first, second, listed(first), third, second[::-1], third, first)
        self.assertEqual(Form(fields, rules).rules(), (first, second, third))
        self.assertEqual(Form(fields, rules[::-1]).rules(), (first, third, second))
        self.assertEqual(Form(fields, (second[::-1], first, second)).rules(), (second, first))


class TestForm(FormCase):

    def test_3_values_multiplied(self):
        for counts in ((5, 5, 5, 4, 2), (2, 4, 5, 5, 5), (5, 5, 5, 4, 2, 1)):
            self.assertEqual(Form(fields_of(*counts), ()).fields(), fields_of(*counts))
        for counts in ((4, 4, 4, 4, 4), (5, 5, 5, 3, 3), (5, 5, 5, 5, 5, 5), (3, 3, 3, 3, 3, 5), (4, 4, 4, 4, 2, 2)):
            self.assert_too_many(fields_of(*counts), ())

    def test_3_values_multiplied_whatever_the_rules(self):
        rules = [(("ape", value),) for value in FIVE_VALUES]
        self.assert_too_many(fields_of(5, 5, 5, 5, 2), rules)
        self.assertEqual(Form(fields_of(5, 5, 5, 4, 2), rules).rules(), tuple(rules))

    def test_3_the_order_of_errors(self):
        many = fields_of(5, 5, 5, 5, 5)
        self.assert_bad(0, many + (("ape", ("v",)),), None)
        self.assert_bad(0, None, None)
        self.assert_bad(0, (), (((),),))
        self.assert_bad(1, many, None)
        self.assert_bad(1, many, ((("ape", "u"),),))
        self.assert_bad(1, many, ((("ape", "v"),),) * 21)
        self.assert_too_many(many, ((("ape", "v"),),))

    def test_1_lists_are_taken_and_tuples_told(self):
        form = Form(listed(SMALL_FIELDS), listed(SMALL_RULES))
        self.assertEqual(form.fields(), SMALL_FIELDS)
        self.assertEqual(form.rules(), SMALL_RULES)
        for handed in ((SMALL_FIELDS, SMALL_RULES), (listed(SMALL_FIELDS), listed(SMALL_RULES))):
            self.assertTrue(only_tuples(Form(*handed).fields()))
            self.assertTrue(only_tuples(Form(*handed).rules()))

    def test_1_later_changes_have_no_effect(self):
        fields, rules = listed(SMALL_FIELDS), listed(SMALL_RULES)
        form = Form(fields, rules)
        fields[0][1].append("wed")
        fields[1][0] = "width"
        fields.pop()
        rules[0][0][1] = "tue"
        rules[1].pop()
        rules.append([["day", "tue"]])
        self.assertEqual(form.fields(), SMALL_FIELDS)
        self.assertEqual(form.rules(), SMALL_RULES)

    def test_1_arguments_stay_as_they_were(self):
        fields, rules = listed(SMALL_FIELDS), [listed(rule[::-1]) for rule in SMALL_RULES * 2]
        kept = copy.deepcopy((fields, rules))
        Form(fields, rules)
        self.assertEqual((fields, rules), kept)
        with self.assertRaises(BadValue):
            Form(fields, rules + [[["day", "wed"]]])
        self.assertEqual((fields, rules), kept)

    def test_1_by_position_and_by_name(self):
        form = Form(SMALL_FIELDS, SMALL_RULES)
        self.assertEqual(Form(rules=SMALL_RULES, fields=SMALL_FIELDS), form)
        self.assertEqual(Form(SMALL_FIELDS, rules=SMALL_RULES), form)

    def test_1_equal_calls_give_equal_results(self):
        form, other = Form(SMALL_FIELDS, SMALL_RULES), Form(SMALL_FIELDS, SMALL_RULES)
        self.assertEqual(form.fields(), form.fields())
        self.assertEqual(form.fields(), other.fields())
        self.assertEqual(form.rules(), form.rules())
        self.assertEqual(form.rules(), other.rules())

    def test_3_methods_defined_in_the_class(self):
        for name in ("__init__", "fields", "rules", "__eq__"):
            self.assertIn(name, vars(Form))
        self.assertEqual(Form.__module__, "sayfill.forms")


class TestEqual(FormCase):

    def test_3_equal_forms(self):
        form = Form(SMALL_FIELDS, SMALL_RULES)
        others = [
            form,
            Form(SMALL_FIELDS, SMALL_RULES),
            Form(listed(SMALL_FIELDS), listed(SMALL_RULES)),
            Form(SMALL_FIELDS, [rule[::-1] for rule in SMALL_RULES]),
            Form(SMALL_FIELDS, SMALL_RULES + SMALL_RULES),
        ]
        for other in others:
            self.assertIs(form == other, True)
            self.assertIs(other == form, True)
            self.assertIs(form != other, False)

    def test_3_unequal_forms(self):
        form = Form(SMALL_FIELDS, SMALL_RULES)
        more = (("day", ("mon", "tue", "wed")),) + SMALL_FIELDS[1:]
        turned = (("day", ("tue", "mon")),) + SMALL_FIELDS[1:]
        others = [
            Form(SMALL_FIELDS, SMALL_RULES[:1]),
            Form(SMALL_FIELDS, SMALL_RULES[::-1]),
            Form(SMALL_FIELDS, ()),
            Form(SMALL_FIELDS[::-1], SMALL_RULES),
            Form(SMALL_FIELDS + (("way", ("in",)),), SMALL_RULES),
            Form(more, SMALL_RULES),
            Form(turned, SMALL_RULES),
        ]
        for other in others:
            self.assertIs(form == other, False)
            self.assertIs(other == form, False)
            self.assertIs(form != other, True)

    def test_3_what_is_no_form(self):
        form = Form(SMALL_FIELDS, SMALL_RULES)
        others = (SMALL_FIELDS, (SMALL_FIELDS, SMALL_RULES), [], {}, object(), BadValue(0), Form, "day")
        for other in others + ODD_THINGS:
            self.assertIs(form == other, False)
            self.assertIs(form != other, True)


if __name__ == "__main__":
    unittest.main()
