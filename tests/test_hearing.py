"""Promises [1] and [10]: the functions of sayfill/hearing.py."""

import copy
import unittest
from random import Random

from sayfill import hearing as module
from sayfill.forms import Form
from sayfill.hearing import doubtful, heard, heard_as

from helpers import (
    EMPTY_ROWS, ODD_THINGS, SMALL_FIELDS, SMALL_HEARING, SMALL_PHRASES, SMALL_RULES, WRONG_TEXTS, ErrorCase, listed,
    nested, only_tuples, plain_doubtful, random_phrases,
)

YES, NO = ("yes",), ("no",)
PAIRS = (("one", "on"), ("on", "an"), ("two", "to"), ("two", "too"), ("two", "to"), ("an", "an"), ("to", "two"))


def small():
    """A form of three fields."""
    return Form(SMALL_FIELDS, SMALL_RULES)


def sets(*rows):
    """Phrases that set values, each written as `TEXT : FIELD VALUE`."""
    parts = [row.split(" : ") for row in rows]
    return tuple((text, ("set",) + tuple(pair.split())) for text, pair in parts)


def wrong_hearing():
    """What is no hearing."""
    pair = ("one", "on")
    things = list(ODD_THINGS) + ["on", "one", "ab", pair, ["one", "on"], nested(38, pair)]
    for odd in ODD_THINGS + EMPTY_ROWS + ("one", "ab", ("one",), ("one", "on", "on"), (pair,), (pair, pair)):
        things += [(odd,), [odd], (pair, odd), [odd, pair], [list(pair), odd]]
    for odd in ODD_THINGS + EMPTY_ROWS + ("ninesigns", "One", "on e", " on", "on ", "on\n", ("on",), ["on"]):
        things += [(("one", odd),), [[odd, "one"]], (pair, (odd, odd)), [["on", odd], ["on", "one"]]]
    return [thing for thing in things if thing not in EMPTY_ROWS]


class TestHeard(ErrorCase):

    def test_10_the_word_itself(self):
        for hearing in ((), [], PAIRS, (("one", "three"),)):
            self.assertEqual(heard(hearing, "four"), ("four",))
        self.assertEqual(heard((("a", "b"),), "b"), ("b",))

    def test_10_what_it_can_be_heard_as(self):
        self.assertEqual(heard((("one", "on"),), "one"), ("on", "one"))
        self.assertEqual(heard((("one", "zone"),), "one"), ("one", "zone"))
        self.assertEqual(heard(PAIRS, "two"), ("to", "too", "two"))

    def test_10_what_the_second_one_can_be_heard_as_does_not_count(self):
        self.assertEqual(heard(PAIRS, "one"), ("on", "one"))
        self.assertEqual(heard(PAIRS, "on"), ("an", "on"))
        self.assertEqual(heard((("a", "b"), ("b", "c"), ("c", "a")), "a"), ("a", "b"))

    def test_10_not_the_other_way_round(self):
        self.assertEqual(heard(PAIRS, "too"), ("too",))
        self.assertEqual(heard((("one", "on"),), "on"), ("on",))

    def test_10_pairs_twice_and_of_one_word(self):
        self.assertEqual(heard((("a", "b"), ("a", "b"), ["a", "b"]), "a"), ("a", "b"))
        self.assertEqual(heard((("a", "a"),), "a"), ("a",))
        self.assertEqual(heard((("a", "a"), ("a", "b"), ("a", "a")), "a"), ("a", "b"))
        self.assertEqual(heard(PAIRS, "an"), ("an",))

    def test_10_ordered_as_strings(self):
        seconds = ("z", "b", "ab", "abc", "aa", "y", "a", "m")
        hearing = [("m", second) for second in seconds]
        self.assertEqual(heard(hearing, "m"), ("a", "aa", "ab", "abc", "b", "m", "y", "z"))
        self.assertEqual(heard(hearing[::-1], "m"), ("a", "aa", "ab", "abc", "b", "m", "y", "z"))

    def test_10_words_of_1_to_8_letters(self):
        self.assertEqual(heard((("a", "abcdefgh"), ("abcdefgh", "z")), "abcdefgh"), ("abcdefgh", "z"))
        self.assertEqual(heard((("a", "abcdefgh"), ("abcdefgh", "z")), "a"), ("a", "abcdefgh"))

    def test_10_many_pairs(self):
        words = [one + two for one in "abcdefghijklmnopqrstuvwxyz" for two in "abcdefghijklmnopqrstuvwxyz"]
        hearing = [("so", word) for word in words[::-1]] * 5
        self.assertEqual(heard(hearing, "so"), tuple(words))

    def test_10_what_is_no_hearing(self):
        for thing in wrong_hearing():
            self.assert_bad(0, heard, thing, "one")

    def test_10_what_is_no_word(self):
        for thing in ODD_THINGS + EMPTY_ROWS + (("one",), ["one"], "on one", "one ", "One", "oneoneone"):
            self.assert_bad(1, heard, PAIRS, thing)
            self.assert_bad(1, heard, (), thing)

    def test_10_the_first_wrong_argument(self):
        self.assert_bad(0, heard, None, None)
        self.assert_bad(0, heard, ("one", "on"), "One")


class TestHeardAs(ErrorCase):

    def test_10_as_itself(self):
        for text in ("one", "on monday", "a b c d e f", "a " * 40000 + "a"):
            self.assertIs(heard_as((), text, text), True)
            self.assertIs(heard_as(PAIRS, text, text), True)

    def test_10_each_word_by_itself_or_by_a_pair(self):
        for other in ("one two", "on two", "one to", "on to", "one too", "on too"):
            self.assertIs(heard_as(PAIRS, "one two", other), True, other)
        for other in ("an two", "an to", "one one", "two one", "two on", "to on", "ones two", "on tow"):
            self.assertIs(heard_as(PAIRS, "one two", other), False, other)

    def test_10_each_at_its_place(self):
        hearing = (("a", "b"), ("b", "a"))
        self.assertIs(heard_as(hearing, "a b", "b a"), True)
        self.assertIs(heard_as((("a", "b"),), "a b", "b a"), False)
        self.assertIs(heard_as((("a", "b"),), "a a a", "b a b"), True)
        self.assertIs(heard_as((("a", "b"),), "a c", "c b"), False)

    def test_10_just_that(self):
        self.assertIs(heard_as(PAIRS, "one", "an"), False)
        self.assertIs(heard_as(PAIRS, "on", "an"), True)
        self.assertIs(heard_as(PAIRS, "on", "one"), False)
        self.assertIs(heard_as(PAIRS, "to", "two"), True)
        self.assertIs(heard_as(PAIRS, "to", "too"), False)

    def test_10_unlike_numbers_of_words(self):
        for said, other in (("one", "one two"), ("one two", "one"), ("one one", "one"), ("on", "on on on"),
                            ("a b c d e f g", "a b c d e f"), ("ab", "a b"), ("a b", "ab")):
            self.assertIs(heard_as(PAIRS, said, other), False)
            self.assertIs(heard_as((), said, other), False)

    def test_10_any_number_of_words(self):
        said, other = " ".join(["one"] * 50), " ".join(["on", "one"] * 25)
        self.assertIs(heard_as(PAIRS, said, other), True)
        self.assertIs(heard_as(PAIRS, other, said), False)
        self.assertIs(heard_as(PAIRS, said + " a", other + " b"), False)

    def test_10_what_is_no_hearing(self):
        for thing in wrong_hearing():
            self.assert_bad(0, heard_as, thing, "one", "on")

    def test_10_what_is_no_text(self):
        things = [odd for odd in ODD_THINGS if odd != "a b"] + list(WRONG_TEXTS) + [(), [], ("one",), ["one", "two"]]
        for thing in things:
            self.assert_bad(1, heard_as, PAIRS, thing, "one")
            self.assert_bad(2, heard_as, PAIRS, "one", thing)

    def test_10_the_first_wrong_argument(self):
        self.assert_bad(0, heard_as, None, None, None)
        self.assert_bad(0, heard_as, (("one",),), "", "one")
        self.assert_bad(1, heard_as, PAIRS, "", None)
        self.assert_bad(1, heard_as, PAIRS, "one ", "one two")
        self.assert_bad(2, heard_as, PAIRS, "one two", "one ")


class TestDoubtful(ErrorCase):

    def test_10_nothing_where_no_other_act_sounds_alike(self):
        self.assertEqual(doubtful(small(), SMALL_PHRASES, ()), ())
        self.assertEqual(doubtful(small(), SMALL_PHRASES, []), ())
        self.assertEqual(doubtful(small(), SMALL_PHRASES, (("monday", "sunday"), ("one", "on"))), ())

    def test_10_of_another_value(self):
        self.assertEqual(doubtful(small(), SMALL_PHRASES, (("monday", "tuesday"),)), (("day", "tue"),))
        self.assertEqual(doubtful(small(), SMALL_PHRASES, (("tuesday", "monday"),)), (("day", "mon"),))
        self.assertEqual(doubtful(small(), SMALL_PHRASES, SMALL_HEARING),
                         (("day", "mon"), ("day", "tue"), ("size", "small")))

    def test_10_said_the_other_one_heard_this_one(self):
        phrases = sets("large : size big", "little : size small")
        self.assertEqual(doubtful(small(), phrases, (("large", "little"),)), (("size", "small"),))
        self.assertEqual(doubtful(small(), phrases, (("little", "large"),)), (("size", "big"),))

    def test_10_of_another_field(self):
        phrases = sets("one : hour one", "on : size big", "won : day tue")
        self.assertEqual(doubtful(small(), phrases, (("on", "one"),)), (("hour", "one"),))
        self.assertEqual(doubtful(small(), phrases, (("on", "one"), ("one", "won"))), (("day", "tue"), ("hour", "one")))

    def test_10_of_any_other_act(self):
        for act in (YES, NO, ("drop", "day"), ("not", "day", "mon"), ("not", "size", "big"), ("set", "day", "tue")):
            phrases = sets("mon : day mon") + (("man", act),)
            self.assertEqual(doubtful(small(), phrases, (("man", "mon"),)), (("day", "mon"),))
            self.assertEqual(doubtful(small(), phrases[::-1], (("man", "mon"),)), (("day", "mon"),))

    def test_10_not_of_another_text_of_the_same_act(self):
        phrases = sets("mon : day mon", "man : day mon", "moon : day mon")
        hearing = [(one, two) for one in ("mon", "man", "moon") for two in ("mon", "man", "moon")]
        self.assertEqual(doubtful(small(), phrases, hearing), ())
        self.assertEqual(doubtful(small(), listed(phrases), hearing), ())

    def test_10_some_phrase_of_the_act(self):
        phrases = sets("mon : day mon", "first : day mon", "tue : day tue", "worst : day tue")
        self.assertEqual(doubtful(small(), phrases, (("worst", "first"),)), (("day", "mon"),))
        self.assertEqual(doubtful(small(), phrases, (("mon", "worst"),)), (("day", "tue"),))

    def test_10_the_same_text_with_another_act(self):
        for act in (YES, ("drop", "size"), ("not", "day", "mon")):
            self.assertEqual(doubtful(small(), sets("mon : day mon") + (("mon", act),), ()), (("day", "mon"),))
            self.assertEqual(doubtful(small(), (("mon", act),) + sets("mon : day mon"), ()), (("day", "mon"),))
        self.assertEqual(doubtful(small(), sets("mon : day mon", "mon : day tue"), ()),
                         (("day", "mon"), ("day", "tue")))
        self.assertEqual(doubtful(small(), sets("so big : size big", "so big : hour two"), ()),
                         (("size", "big"), ("hour", "two")))

    def test_10_only_what_is_set(self):
        phrases = (("yes", YES), ("no", NO), ("any", ("drop", "day")), ("never", ("not", "day", "mon")))
        hearing = [(one, two) for one, _ in phrases for two, _ in phrases]
        self.assertEqual(doubtful(small(), phrases, hearing), ())
        self.assertEqual(doubtful(small(), phrases + sets("tue : day tue"), hearing), ())
        self.assertEqual(doubtful(small(), phrases + sets("tue : day tue"), hearing + [("never", "tue")]),
                         (("day", "tue"),))

    def test_10_of_several_words(self):
        phrases = sets("on the one : day mon", "in the won : day tue")
        self.assertEqual(doubtful(small(), phrases, (("on", "in"),)), ())
        self.assertEqual(doubtful(small(), phrases, (("one", "won"),)), ())
        self.assertEqual(doubtful(small(), phrases, (("on", "in"), ("one", "won"))), (("day", "tue"),))
        self.assertEqual(doubtful(small(), phrases, (("in", "on"), ("one", "won"))), ())

    def test_10_texts_of_unlike_numbers_of_words(self):
        phrases = sets("on : day mon", "on on : day tue", "on in : size big")
        self.assertEqual(doubtful(small(), phrases, (("on", "in"),)), (("size", "big"),))
        self.assertEqual(doubtful(small(), phrases[:2], (("on", "on"),)), ())

    def test_10_what_the_second_one_can_be_heard_as_does_not_count(self):
        phrases = sets("one : day mon", "an : day tue")
        self.assertEqual(doubtful(small(), phrases, (("one", "on"), ("on", "an"))), ())

    def test_10_in_the_sequence_of_fields_then_of_values(self):
        fields = (("fox", ("w", "v")), ("ape", ("z", "a")))
        phrases = sets("p : ape a", "p : fox v", "p : ape z", "p : fox w")
        pairs = (("fox", "w"), ("fox", "v"), ("ape", "z"), ("ape", "a"))
        self.assertEqual(doubtful(Form(fields, ()), phrases, ()), pairs)
        self.assertEqual(doubtful(Form(fields, ()), phrases[::-1], ()), pairs)
        self.assertEqual(doubtful(Form(fields, ()), phrases[:2], ()), (pairs[1], pairs[3]))

    def test_10_as_found_by_asking_of_each_two(self):
        some = 0
        for seed in range(400):
            chance = Random(seed)
            phrases = random_phrases(seed, SMALL_FIELDS, ["on", "in", "an", "to"], 9, 2)
            hearing = [(chance.choice(("on", "in", "an", "to")), chance.choice(("on", "in", "an", "to")))
                       for _ in range(chance.randint(0, 4))]
            pairs = plain_doubtful(SMALL_FIELDS, phrases, hearing)
            self.assertEqual(doubtful(small(), phrases, hearing), pairs, (phrases, hearing))
            some += 0 < len(pairs) < sum(act[0] == "set" for act in {act for _, act in phrases})
        self.assertGreater(some, 20)

    def test_10_what_are_no_phrases(self):
        things = list(ODD_THINGS) + [(), [], ("yes", YES), (("yes", ("set", "day", "wed")),), (("Yes", YES),)]
        for thing in things + [(("yes", YES), ["yes", ["yes"]]), (("yes", YES, NO),), (("a b c d e f g", YES),)]:
            self.assert_bad(1, doubtful, small(), thing, PAIRS)
            self.assert_bad(1, doubtful, small(), thing, None)

    def test_10_what_is_no_hearing(self):
        for thing in wrong_hearing():
            self.assert_bad(2, doubtful, small(), SMALL_PHRASES, thing)


class TestBasics(ErrorCase):

    def test_1_lists_and_tuples(self):
        for hearing in (PAIRS, listed(PAIRS), list(PAIRS), tuple(listed(PAIRS))):
            self.assertEqual(heard(hearing, "two"), ("to", "too", "two"))
            self.assertIs(heard_as(hearing, "one two", "on too"), True)
        for hearing in (SMALL_HEARING, listed(SMALL_HEARING), tuple(listed(SMALL_HEARING))):
            pairs = doubtful(small(), listed(SMALL_PHRASES), hearing)
            self.assertEqual(pairs, (("day", "mon"), ("day", "tue"), ("size", "small")))
            self.assertTrue(only_tuples(pairs))
            self.assertTrue(only_tuples(heard(hearing, "monday")))

    def test_1_by_position_and_by_name(self):
        self.assertEqual(heard(word="two", hearing=PAIRS), ("to", "too", "two"))
        self.assertEqual(heard(PAIRS, word="one"), ("on", "one"))
        self.assertIs(heard_as(other="on", said="one", hearing=PAIRS), True)
        self.assertIs(heard_as(PAIRS, other="one", said="on"), False)
        self.assertEqual(doubtful(hearing=(("monday", "tuesday"),), phrases=SMALL_PHRASES, form=small()),
                         (("day", "tue"),))

    def test_1_equal_calls_give_equal_results(self):
        self.assertEqual(heard(PAIRS, "two"), heard(listed(PAIRS), "two"))
        self.assertEqual(doubtful(small(), SMALL_PHRASES, SMALL_HEARING),
                         doubtful(small(), listed(SMALL_PHRASES), listed(SMALL_HEARING)))

    def test_1_arguments_stay_as_they_were(self):
        form, phrases, hearing = small(), listed(SMALL_PHRASES), listed(SMALL_HEARING)
        kept = copy.deepcopy((phrases, hearing))
        heard(hearing, "monday")
        heard_as(hearing, "on monday", "on tuesday")
        doubtful(form, phrases, hearing)
        self.assert_bad(2, doubtful, form, phrases, hearing + [["one"]])
        self.assertEqual((phrases, hearing), kept)
        self.assertEqual(form, small())

    def test_1_defined_in_the_module(self):
        for call in (heard, heard_as, doubtful):
            self.assertEqual(call.__module__, "sayfill.hearing")
            self.assertIs(vars(module)[call.__name__], call)


if __name__ == "__main__":
    unittest.main()
