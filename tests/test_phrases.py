"""Promises [1], [7], [8] and [9]: the functions of sayfill/phrases.py."""

import copy
import unittest
from random import Random

from sayfill import phrases as module
from sayfill.errors import BadValue, TooMany
from sayfill.forms import Form
from sayfill.phrases import check_phrases, first_double, meanings

from helpers import (
    EMPTY_ROWS, ODD_THINGS, SMALL_FIELDS, SMALL_PHRASES, SMALL_RULES, WIDE_FIELDS, WRONG_TEXTS, ErrorCase, all_acts,
    has_double, listed, odd_acts, only_tuples, plain_double, plain_readings, random_phrases, shallow_calls, words_of,
    wrong_acts,
)

YES, NO = ("yes",), ("no",)
WIDE_ACTS = all_acts(WIDE_FIELDS)


def small():
    """A form of three fields."""
    return Form(SMALL_FIELDS, SMALL_RULES)


def wide():
    """A form with 52 acts."""
    return Form(WIDE_FIELDS, ())


def all_yes(*texts):
    """Phrases of one act."""
    return tuple((text, YES) for text in texts)


def numbered_text(number):
    """A text of two words, another one for each number below 676."""
    letters = "abcdefghijklmnopqrstuvwxyz"
    return "say " + letters[number // 26] + letters[number % 26]


def wrong_phrases():
    """What are no phrases of the form of small()."""
    things = list(ODD_THINGS) + ["yes", ("yes", YES), ["yes", ["yes"]], (), []]
    for odd in list(ODD_THINGS) + ["yes", (), [], ("yes",), ("yes", YES, YES), (YES, "yes"), (("yes", YES),), "ab"]:
        things += [(odd,), [odd], [("yes", YES), odd], (odd, ("yes", YES))]
    for text in [odd for odd in ODD_THINGS if odd != "a b"] + list(WRONG_TEXTS) + [(), [], ("yes",), ["on", "day"]]:
        things += [((text, YES),), [["yes", ["yes"]], [text, ["yes"]]]]
    for act in odd_acts() + wrong_acts():
        things += [(("yes", act),), [["yes", YES], ["on monday", act]]]
    return things


class PhrasesCase(ErrorCase):

    def assert_too_many(self, word, call, *things):
        with self.assertRaises(TooMany) as caught:
            call(*things)
        self.assertEqual(caught.exception.word, word)

    def assert_no_phrases(self, call, *rest):
        form = small()
        for thing in wrong_phrases():
            self.assert_bad(1, call, form, thing, *rest)

    def assert_checked(self, form, phrases):
        self.assertIsNone(check_phrases(form, phrases))
        self.assertIsNone(check_phrases(form, listed(phrases)))


class TestCheckPhrases(PhrasesCase):

    def test_7_every_kind_of_act(self):
        self.assert_checked(small(), SMALL_PHRASES)
        for act in all_acts(SMALL_FIELDS):
            self.assert_checked(small(), (("word", act),))
        for at, act in enumerate(WIDE_ACTS):
            self.assert_checked(wide(), ((numbered_text(at), act),))

    def test_7_how_many_phrases(self):
        phrases = all_yes(*[numbered_text(number) for number in range(61)])
        for many in (1, 2, 59, 60):
            self.assert_checked(small(), phrases[:many])
        for wrong in (phrases, listed(phrases), phrases * 3, (), []):
            self.assert_bad(1, check_phrases, small(), wrong)

    def test_7_how_many_words(self):
        for many in range(1, 7):
            self.assert_checked(small(), all_yes(" ".join(["abc"] * many)))
        for many in (7, 8, 12, 30, 50000):
            self.assert_bad(1, check_phrases, small(), all_yes(" ".join(["abc"] * many)))
        self.assert_bad(1, check_phrases, small(), all_yes("yes", "a b c d e f g"))
        self.assert_bad(1, check_phrases, small(), all_yes(""))

    def test_7_how_many_letters(self):
        for many in range(1, 9):
            self.assert_checked(small(), all_yes("z" * many, "say " + "a" * many, "a" * many + " is it"))
        for many in (9, 10, 17, 200000):
            for text in ("z" * many, "say " + "a" * many, "a" * many + " is it"):
                self.assert_bad(1, check_phrases, small(), all_yes(text))

    def test_7_small_letters_alone(self):
        self.assert_checked(small(), all_yes("abcdefgh ijklmnop qrstuvwx yz"))
        signs = [chr(code) for code in range(256) if not "a" <= chr(code) <= "z" and code != 32]
        for sign in signs + ["\u0430", "\u03b1", "\uff41", "\u0131", "\u2003", "\u3000", "\U0001d41a"]:
            for text in (sign, "a" + sign, sign + "a", "on " + sign, "on a" + sign + "b", sign + " on"):
                self.assert_bad(1, check_phrases, small(), all_yes(text))

    def test_7_one_blank_between(self):
        for text in ("on  monday", " on monday", "on monday ", " on", "on ", " ", "  ", "on   a day", "a b  c"):
            self.assert_bad(1, check_phrases, small(), all_yes(text))

    def test_7_two_phrases_of_one_act(self):
        act = ("set", "day", "mon")
        self.assert_checked(small(), (("on monday", act), ("monday", act), ("mondays", act)))

    def test_7_one_text_with_two_acts(self):
        self.assert_checked(small(), (("yes", YES), ("yes", NO), ("yes", ("drop", "day"))))
        self.assert_checked(small(), (("day", ("set", "day", "mon")), ("day", ("not", "day", "mon"))))

    def test_7_one_text_and_one_act_twice(self):
        act = ("set", "day", "mon")
        phrases = (("on monday", act), ("yes", YES), ("on monday", ("set", "day", "tue")))
        self.assert_checked(small(), phrases)
        for more in (("on monday", act), ["on monday", act], ["on monday", list(act)], ("on monday", list(act))):
            self.assert_bad(1, check_phrases, small(), phrases + (more,))
            self.assert_bad(1, check_phrases, small(), [more] + list(phrases))
            self.assert_bad(1, check_phrases, small(), listed(phrases) + [more])

    def test_7_acts_of_the_form(self):
        one = Form((("set", ("yes", "no")), ("drop", ("set",))), ())
        for act in (("set", "set", "yes"), ("not", "set", "no"), ("drop", "set"), ("drop", "drop"),
                    ("set", "drop", "set")):
            self.assert_checked(one, (("word", act),))
            self.assert_bad(1, check_phrases, small(), (("word", act),))
        for act in (("set", "day", "mon"), ("drop", "day"), ("set", "set", "set"), ("set", "drop", "yes")):
            self.assert_bad(1, check_phrases, one, (("word", act),))

    def test_7_what_are_no_phrases(self):
        self.assert_no_phrases(check_phrases)

    def test_7_a_wrong_one_anywhere(self):
        for at in (0, 7, len(SMALL_PHRASES)):
            for wrong in (("on", ("set", "day", "wed")), ("On", YES), ("on", YES, YES), "on", None):
                phrases = SMALL_PHRASES[:at] + (wrong,) + SMALL_PHRASES[at:]
                self.assert_bad(1, check_phrases, small(), phrases)
                self.assert_bad(1, check_phrases, small(), list(phrases))

    def test_1_lists_and_tuples(self):
        mixed = [("yes", ["yes"]), ["no", ("no",)], ("on monday", ["set", "day", "mon"]), ["any day", ["drop", "day"]]]
        for phrases in (mixed, tuple(mixed), listed(mixed)):
            self.assertIsNone(check_phrases(small(), phrases))
            self.assertEqual(meanings(small(), phrases, "no on monday yes any day"),
                             ((NO, ("set", "day", "mon"), YES, ("drop", "day")),))


class TestMeanings(PhrasesCase):

    def test_8_one_reading(self):
        self.assertEqual(meanings(small(), SMALL_PHRASES, "on monday"), ((("set", "day", "mon"),),))
        self.assertEqual(meanings(small(), SMALL_PHRASES, "no large any day at two"),
                         ((NO, ("set", "size", "big"), ("drop", "day"), ("set", "hour", "two")),))
        self.assertEqual(meanings(small(), SMALL_PHRASES, "yes yes right"), ((YES, YES, YES),))

    def test_8_no_reading(self):
        for utterance in ("monday", "on", "on monday on", "monday on", "on large monday", "hello", "yes hello",
                          "hello yes", "yes hello no", "on mondays", "ye s", "onmonday", "Yes", "yes.", "1"):
            self.assertEqual(meanings(small(), SMALL_PHRASES, utterance), ())

    def test_8_several_readings(self):
        phrases = (("a", YES), ("b", NO), ("a b", ("drop", "day")))
        self.assertEqual(meanings(small(), phrases, "a b"), ((("drop", "day"),), (YES, NO)))
        self.assertEqual(meanings(small(), phrases, "a b a b"), (
            (("drop", "day"), ("drop", "day")),
            (YES, NO, ("drop", "day")), (("drop", "day"), YES, NO), (YES, NO, YES, NO)))
        self.assertEqual(meanings(small(), phrases, "b a"), ((NO, YES),))

    def test_8_one_text_with_several_acts(self):
        phrases = (("a", NO), ("a", YES), ("a", ("drop", "day")))
        self.assertEqual(meanings(small(), phrases, "a"), ((NO,), (YES,), (("drop", "day"),)))
        rows = tuple((one, two) for one in (NO, YES, ("drop", "day")) for two in (NO, YES, ("drop", "day")))
        self.assertEqual(meanings(small(), phrases, "a a"), rows)

    def test_8_each_reading_once(self):
        self.assertEqual(meanings(small(), all_yes("a", "a a"), "a a a"), ((YES, YES), (YES, YES, YES)))
        self.assertEqual(meanings(small(), all_yes("a", "a b", "b c", "c"), "a b c"), ((YES, YES),))
        phrases = (("a", YES), ("a b", YES), ("b c", NO), ("c", NO))
        self.assertEqual(meanings(small(), phrases, "a b c"), ((YES, NO),))

    def test_8_shorter_ones_ahead(self):
        phrases = (("a", YES), ("a a", NO), ("a a a", ("drop", "day")))
        self.assertEqual(meanings(small(), phrases, "a a a"),
                         ((("drop", "day"),), (YES, NO), (NO, YES), (YES, YES, YES)))
        self.assertEqual(meanings(small(), phrases[::-1], "a a a"),
                         ((("drop", "day"),), (NO, YES), (YES, NO), (YES, YES, YES)))

    def test_8_the_place_of_an_act_is_that_of_its_first_phrase(self):
        phrases = (("b", NO), ("a", YES), ("a", ("drop", "day")), ("a", NO))
        self.assertEqual(meanings(small(), phrases, "a"), ((NO,), (YES,), (("drop", "day"),)))
        self.assertEqual(meanings(small(), phrases[1:], "a"), ((YES,), (("drop", "day"),), (NO,)))
        self.assertEqual(meanings(small(), phrases[::-1], "a"), ((NO,), (("drop", "day"),), (YES,)))

    def test_8_ordered_by_places_from_the_first_act_on(self):
        phrases = (("a", YES), ("a", NO), ("b", NO), ("b", YES), ("a b", ("drop", "day")), ("b a", ("drop", "size")))
        drop_day, drop_size = ("drop", "day"), ("drop", "size")
        self.assertEqual(meanings(small(), phrases, "a b a")[:4],
                         ((YES, drop_size), (NO, drop_size), (drop_day, YES), (drop_day, NO)))
        self.assertEqual(meanings(small(), phrases, "a b a")[4:],
                         tuple((one, two, three) for one in (YES, NO) for two in (YES, NO) for three in (YES, NO)))

    def test_8_no_words(self):
        for utterance in ("", " ", "     ", " " * 200000):
            self.assertEqual(meanings(small(), SMALL_PHRASES, utterance), ((),))

    def test_8_several_blanks(self):
        for utterance in ("on  monday", "  on monday", "on monday  ", "   on     monday ",
                          "on" + " " * 99999 + "monday"):
            self.assertEqual(meanings(small(), SMALL_PHRASES, utterance), ((("set", "day", "mon"),),))

    def test_8_only_blanks_part_words(self):
        for sign in "\t\n\r\x0b\x0c\x1c\x85\xa0\u2003\u3000-,":
            for utterance in ("on" + sign + "monday", "yes" + sign, sign + "yes", "yes " + sign, sign):
                self.assertEqual(meanings(small(), SMALL_PHRASES, utterance), (), repr(utterance))

    def test_8_any_signs(self):
        for utterance in ("\u00e9", "yes \u0430", "YES", "{}", "\x00", "yes\u200b", "%s", "x" * 200000,
                          "\U0001d41a no"):
            self.assertEqual(meanings(small(), SMALL_PHRASES, utterance), ())

    def test_8_thirty_words(self):
        self.assertEqual(meanings(small(), SMALL_PHRASES, " ".join(["yes"] * 30)), ((YES,) * 30,))
        self.assertEqual(meanings(small(), SMALL_PHRASES, "  ".join(["on monday"] * 15)),
                         ((("set", "day", "mon"),) * 15,))
        self.assertEqual(meanings(small(), SMALL_PHRASES, " ".join(["Hm"] * 30)), ())

    def test_8_more_than_thirty_words(self):
        for utterance in (" ".join(["yes"] * 31), " ".join(["on monday"] * 15) + " yes", " ".join(["Hm"] * 31),
                          " ".join("?" * 31), "\n " * 31, "a " * 100000, " ".join(["yes"] * 30) + "   \t"):
            self.assert_too_many("words", meanings, small(), SMALL_PHRASES, utterance)

    def test_8_two_hundred_readings(self):
        phrases = tuple(("a", act) for act in WIDE_ACTS[:10]) + tuple(("b", act) for act in WIDE_ACTS[:20])
        rows = tuple((one, two) for one in WIDE_ACTS[:10] for two in WIDE_ACTS[:20])
        self.assertEqual(meanings(wide(), phrases, "a b"), rows)
        self.assertEqual(len(rows), 200)
        # More ways to part the words, but no more unlike readings.
        more = phrases + tuple((text, WIDE_ACTS[0]) for text in ("x", "x y", "y z", "z"))
        for utterance in ("a b x y z", "x y z a b", "x y z a x y z b x y z"):
            self.assertEqual(len(meanings(wide(), more, utterance)), 200)

    def test_8_more_than_two_hundred_readings(self):
        phrases = tuple(("a", act) for act in WIDE_ACTS[:10]) + tuple(("b", act) for act in WIDE_ACTS[:20])
        for act in (WIDE_ACTS[0], WIDE_ACTS[30]):
            self.assert_too_many("readings", meanings, wide(), phrases + (("a b", act),), "a b")
        self.assert_too_many("readings", meanings, wide(), phrases + (("b", WIDE_ACTS[20]),), "a b")
        self.assert_too_many("readings", meanings, wide(), phrases, "a a a")
        self.assert_too_many("readings", meanings, wide(), phrases, " ".join(["b"] * 30))
        self.assertEqual(len(meanings(wide(), phrases, "a a")), 100)
        self.assertEqual(meanings(wide(), phrases, "a a a c"), ())
        self.assertEqual(meanings(wide(), phrases, "c a a a"), ())

    def test_8_two_hundred_readings_of_several_lengths(self):
        eleven = tuple(("a", act) for act in WIDE_ACTS[:11])
        seven = tuple(("c", act) for act in WIDE_ACTS[:7])
        # Of two words 11 * 11 and 7 * 11, and 2 of one word.
        both = eleven + seven + (("a a", WIDE_ACTS[40]), ("a a", WIDE_ACTS[41]))
        self.assertEqual(len(meanings(wide(), both, "a a")), 123)
        self.assertEqual(len(meanings(wide(), both, "c a")), 77)
        phrases = tuple(("a", act) for act in WIDE_ACTS[:14]) + tuple(("a a", act) for act in WIDE_ACTS[:4])
        self.assertEqual(len(meanings(wide(), phrases, "a a")), 200)
        self.assert_too_many("readings", meanings, wide(), phrases + (("a a", WIDE_ACTS[14]),), "a a")

    def test_8_what_leads_nowhere_does_not_count(self):
        phrases = tuple(("a", act) for act in WIDE_ACTS[:30]) + (("a a a a b", YES), ("a a a a b c", NO))
        self.assertEqual(meanings(wide(), phrases, "a a a a b"), ((YES,),))
        self.assertEqual(meanings(wide(), phrases, "a a a a b c"), ((NO,),))
        self.assertEqual(meanings(wide(), phrases, " ".join(["a"] * 28) + " c b"), ())

    def test_8_very_many_ways_and_few_readings(self):
        texts = [" ".join(["a"] * many) for many in range(1, 7)]
        rows = tuple((YES,) * many for many in range(5, 31))
        self.assertEqual(meanings(small(), all_yes(*texts), " ".join(["a"] * 30)), rows)
        self.assertEqual(meanings(small(), all_yes(*texts[:2]), " ".join(["a"] * 30)), rows[10:])
        self.assertEqual(meanings(small(), all_yes(*texts), " ".join(["a"] * 29) + " b"), ())
        self.assertEqual(meanings(small(), all_yes(*texts), "b " + " ".join(["a"] * 29)), ())

    def test_8_very_many_ways_and_many_readings(self):
        texts = [" ".join(["a"] * many) for many in range(1, 7)]
        phrases = tuple((text, act) for text in texts for act in WIDE_ACTS[:10])
        self.assert_too_many("readings", meanings, wide(), phrases, " ".join(["a"] * 30))
        self.assertEqual(meanings(wide(), phrases, " ".join(["a"] * 29) + " b"), ())
        self.assertEqual(len(meanings(wide(), phrases, "a a")), 110)

    def test_8_as_found_by_trying_all(self):
        several = 0
        for seed in range(400):
            chance = Random(seed)
            phrases = random_phrases(seed, SMALL_FIELDS, "abc"[:chance.randint(1, 3)], 8, 3)
            utterance = " ".join(chance.choice("abc") for _ in range(chance.randint(1, 6)))
            if chance.random() < 0.7:
                utterance = " ".join(chance.choice(phrases)[0] for _ in range(chance.randint(1, 3)))
            rows = plain_readings(phrases, utterance)
            if len(rows) <= 200:
                self.assertEqual(meanings(small(), phrases, utterance), rows, (phrases, utterance))
                several += len(rows) > 1
            else:
                self.assert_too_many("readings", meanings, small(), phrases, utterance)
        self.assertGreater(several, 80)

    def test_8_what_are_no_phrases(self):
        self.assert_no_phrases(meanings, "yes")

    def test_8_what_is_no_string(self):
        things = [odd for odd in ODD_THINGS if not isinstance(odd, str)] + [("yes",), ["yes"], 30, 31]
        for thing in things + list(EMPTY_ROWS):
            self.assert_bad(2, meanings, small(), SMALL_PHRASES, thing)

    def test_8_the_order_of_errors(self):
        wrong = (("yes", ("set", "day", "wed")),)
        self.assert_bad(1, meanings, small(), wrong, None)
        self.assert_bad(1, meanings, small(), None, " ".join(["yes"] * 31))
        phrases = tuple(("a", act) for act in WIDE_ACTS)
        self.assert_bad(1, meanings, small(), phrases, " ".join(["a"] * 30))
        self.assert_bad(2, meanings, wide(), phrases, ["a"] * 31)
        self.assert_too_many("words", meanings, wide(), phrases, " ".join(["a"] * 31))
        self.assert_too_many("readings", meanings, wide(), phrases, " ".join(["a"] * 30))


class TestFirstDouble(PhrasesCase):

    def test_9_none(self):
        self.assertIsNone(first_double(small(), SMALL_PHRASES))
        for texts in (("a",), ("a", "b"), ("a b", "b a"), ("a a",), ("a b c d e f",), ("a", "b a", "b b a")):
            self.assertIsNone(first_double(small(), all_yes(*texts)))

    def test_9_two_phrases_of_one_text(self):
        self.assertEqual(first_double(small(), (("a", YES), ("a", NO))), "a")
        self.assertEqual(first_double(small(), (("b", YES), ("a b c", YES), ("a b c", NO), ("a b", NO))), "a b c")
        self.assertEqual(first_double(small(), (("a b", YES), ("c", YES), ("c d e", YES), ("a b", NO))), "a b")

    def test_9_unlike_rows_of_one_reading(self):
        self.assertEqual(first_double(small(), all_yes("a", "a a")), "a a")
        phrases = (("a", YES), ("a b", YES), ("b c", NO), ("c", NO))
        self.assertEqual(first_double(small(), phrases), "a b c")
        self.assertEqual(len(meanings(small(), phrases, "a b c")), 1)

    def test_9_unlike_rows_of_unlike_readings(self):
        phrases = (("a", YES), ("a b", NO), ("b c", ("drop", "day")), ("c", ("drop", "size")))
        self.assertEqual(first_double(small(), phrases), "a b c")
        self.assertEqual(len(meanings(small(), phrases, "a b c")), 2)

    def test_9_fewest_words_first(self):
        self.assertEqual(first_double(small(), all_yes("a", "a a", "x", "y", "x y", "a b c")), "a a")
        self.assertEqual(first_double(small(), (("z", YES), ("z", NO), ("a", YES), ("a a", YES))), "z")
        self.assertEqual(first_double(small(), all_yes("a a", "a a a a", "z", "y", "z y")), "z y")
        self.assertEqual(first_double(small(), all_yes("a a a", "a a")), "a a a a a")

    def test_9_then_as_a_tuple_of_words(self):
        one, other = (("b", YES), ("b", NO)), (("ab", YES), ("ab", NO))
        for phrases in (one + other, other + one, one[:1] + other + one[1:]):
            self.assertEqual(first_double(small(), phrases), "ab")
        for texts in (("b", "c", "b c", "a", "d", "a d"), ("a d", "d", "a", "b c", "c", "b")):
            self.assertEqual(first_double(small(), all_yes(*texts)), "a d")
        self.assertEqual(first_double(small(), all_yes("ab", "b", "ab b", "a", "c", "a c")), "a c")
        self.assertEqual(first_double(small(), all_yes("a", "b", "a b", "aa", "aa b")), "a b")
        self.assertEqual(first_double(small(), all_yes("a", "bb", "a bb", "b", "a b")), "a b")

    def test_9_the_later_words_count_too(self):
        for texts in (("a", "a b", "b c", "c", "b d", "d"), ("d", "b d", "c", "b c", "a b", "a")):
            self.assertEqual(first_double(small(), all_yes(*texts)), "a b c")
        for last in (("z", "y"), ("y", "z")):
            texts = ["m", "m n o"] + ["n o " + word for word in last] + list(last)
            self.assertEqual(first_double(small(), all_yes(*texts)), "m n o y")

    def test_9_longer_than_any_text(self):
        self.assertEqual(first_double(small(), all_yes("a", "a b", "b c", "c d", "d e", "e")), "a b c d e")
        self.assertEqual(first_double(small(), all_yes("a", "a b", "b c", "c d", "d")), "a b c d")
        self.assertEqual(first_double(small(), all_yes("a a a a a a", "a a a a a")), " ".join("a" * 11))

    def test_9_longer_than_an_utterance_may_be(self):
        rests = [numbered_text(number) + " so" for number in range(40)]
        texts = ["go", "go " + rests[0]] + [one + " " + two for one, two in zip(rests, rests[1:])]
        self.assertIsNone(first_double(small(), all_yes(*texts)))
        double = "go " + " ".join(rests)
        self.assertEqual(len(double.split()), 121)
        for turned in (texts + [rests[-1]], [rests[-1]] + texts[::-1]):
            self.assertEqual(first_double(small(), all_yes(*turned)), double)
        self.assert_too_many("words", meanings, small(), all_yes(*texts), double)

    def test_9_the_longest_way_with_sixty_phrases(self):
        rests = [" ".join([numbered_text(number)[4:]] * 3) for number in range(58)]
        texts = ["go", "go " + rests[0]] + [one + " " + two for one, two in zip(rests, rests[1:])] + [rests[-1]]
        self.assertEqual(len(texts), 60)
        self.assertEqual(first_double(small(), all_yes(*texts)), "go " + " ".join(rests))
        self.assertIsNone(first_double(small(), all_yes(*texts[:-1])))

    def test_9_a_text_that_begins_another_one_without_a_double(self):
        for texts in (("a", "a b"), ("a", "a b", "a b b"), ("a", "a b", "b b"), ("a b", "a b c", "c c", "d"),
                      ("a", "a b b b b b"), ("a b", "a b a", "b b"), ("a", "a b", "b c b", "c b b")):
            self.assertIsNone(first_double(small(), all_yes(*texts)), texts)
            self.assertFalse(has_double(all_yes(*texts)))

    def test_9_sixty_phrases(self):
        words = [numbered_text(number)[4:] for number in range(10)]
        texts = [" ".join([word] + ["x"] * many) for word in words for many in range(6)]
        self.assertEqual(len(texts), 60)
        self.assertIsNone(first_double(small(), all_yes(*texts)))
        self.assertEqual(first_double(small(), all_yes(*texts[:59], "x")), "aa x")
        long = [" ".join("b" if number >> at & 1 else "a" for at in range(6)) for number in range(60)]
        self.assertIsNone(first_double(small(), all_yes(*long)))
        self.assertEqual(first_double(small(), all_yes(*long[:59], "a a b")), "a a b a a b")

    def test_9_as_found_by_telling_all_rows(self):
        doubles, none, long = 0, 0, 0
        for seed in range(1500):
            chance = Random(seed)
            phrases = random_phrases(seed, SMALL_FIELDS, "abc"[:chance.randint(1, 3)], 5, 4)
            double, plain = first_double(small(), phrases), plain_double(phrases, 7)
            self.assertEqual(double is not None, has_double(phrases), phrases)
            if plain is None:
                self.assertTrue(double is None or len(double.split()) > 7, phrases)
            else:
                self.assertEqual(double, plain, phrases)
                long += len(plain.split()) > 4
            doubles += plain is not None
            none += double is None
        self.assertGreater(min(doubles, none), 200)
        self.assertGreater(long, 5)

    def test_9_none_means_one_reading_at_most(self):
        tried = 0
        for seed in range(200):
            chance = Random(seed)
            phrases = random_phrases(seed, SMALL_FIELDS, "abc", 6, 3)
            if first_double(small(), phrases) is None:
                for _ in range(10):
                    utterance = " ".join(chance.choice(phrases)[0] for _ in range(chance.randint(1, 10)))
                    self.assertEqual(len(meanings(small(), phrases, utterance)), 1)
                    tried += 1
        self.assertGreater(tried, 300)

    def test_9_what_are_no_phrases(self):
        self.assert_no_phrases(first_double)


class TestBasics(PhrasesCase):

    def test_1_by_position_and_by_name(self):
        form = small()
        self.assertIsNone(check_phrases(phrases=SMALL_PHRASES, form=form))
        self.assertEqual(meanings(utterance="yes", phrases=SMALL_PHRASES, form=form), ((YES,),))
        self.assertEqual(meanings(form, SMALL_PHRASES, utterance="yes"), ((YES,),))
        self.assertEqual(first_double(phrases=all_yes("a", "a a"), form=form), "a a")
        with self.assertRaises(BadValue):
            check_phrases(phrases=(), form=form)

    def test_1_equal_calls_give_equal_results(self):
        phrases = (("a", YES), ("a", NO), ("a b", NO), ("b", ("drop", "day")))
        for utterance in ("a b", "a a b", ""):
            result = meanings(small(), phrases, utterance)
            self.assertEqual(meanings(small(), phrases, utterance), result)
            self.assertEqual(meanings(small(), listed(phrases), utterance), result)
        self.assertEqual(first_double(small(), listed(phrases)), first_double(small(), phrases))

    def test_1_arguments_stay_as_they_were(self):
        form = small()
        for phrases in (SMALL_PHRASES, (("b", NO), ("a", YES), ("a b", YES), ("a", NO))):
            for handed in (listed(phrases), list(phrases), phrases):
                kept = copy.deepcopy(handed)
                check_phrases(form, handed)
                meanings(form, handed, "a b on monday yes")
                meanings(form, handed, "a b a")
                first_double(form, handed)
                self.assertEqual(handed, kept)
                self.assertEqual(form, small())

    def test_1_a_call_that_raises_changes_nothing(self):
        form, phrases = small(), listed(SMALL_PHRASES) + [["yes", ["yes"]]]
        kept = copy.deepcopy(phrases)
        for call, rest in ((check_phrases, ()), (meanings, ("yes",)), (first_double, ())):
            self.assert_bad(1, call, form, phrases, *rest)
        self.assertEqual(phrases, kept)
        self.assertEqual(form, small())

    def test_1_results_are_tuples_throughout(self):
        phrases = [["a", ["yes"]], ["a", ["drop", "day"]], ["a a", ["set", "day", "mon"]]]
        for utterance in ("", "b", "a", "a a a"):
            self.assertTrue(only_tuples(meanings(small(), phrases, utterance)))

    def test_1_results_do_not_hang_on_later_changes(self):
        phrases = [["a", ["set", "day", "mon"]], ["a", ["drop", "day"]]]
        rows = meanings(small(), phrases, "a")
        phrases[0][1][2] = "tue"
        phrases.pop()
        self.assertEqual(rows, ((("set", "day", "mon"),), (("drop", "day"),)))

    def test_1_no_deep_nesting_of_calls(self):
        rests = [" ".join([numbered_text(number)[4:]] * 3) for number in range(58)]
        chain = ["go", "go " + rests[0]] + [one + " " + two for one, two in zip(rests, rests[1:])] + [rests[-1]]
        texts = [" ".join(["a"] * many) for many in range(1, 7)]
        with shallow_calls():
            double = first_double(small(), all_yes(*chain))
            rows = meanings(small(), all_yes(*texts), " ".join(["a"] * 30))
        self.assertEqual((len(words_of(double)), len(rows)), (175, 26))

    def test_1_defined_in_the_module(self):
        for call in (check_phrases, meanings, first_double):
            self.assertEqual(call.__module__, "sayfill.phrases")
            self.assertIs(vars(module)[call.__name__], call)


if __name__ == "__main__":
    unittest.main()
