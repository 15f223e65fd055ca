"""Promises [1], [11], [12], [13] and [14]: the class Dialogue of sayfill/dialogues.py."""

import copy
import unittest
from random import Random

from sayfill.dialogues import Dialogue
from sayfill.errors import BadValue, TooMany
from sayfill.filling import clash, fillings, possible
from sayfill.forms import Form
from sayfill.hearing import doubtful
from sayfill.phrases import meanings

from helpers import (
    EMPTY_ROWS, ODD_THINGS, SMALL_FIELDS, SMALL_HEARING, SMALL_PHRASES, SMALL_RULES, WIDE_FIELDS, ErrorCase, PlainTalk,
    all_acts, listed, nested, odd_acts, only_tuples, random_facts, random_parts, shallow_calls, wrong_acts,
)

YES, NO = ("yes",), ("no",)
YES_AND_NO = (YES, NO)
AGAIN = ("again",)


def small():
    """A form of three fields; seven of the twelve ways to fill them break no rule."""
    return Form(SMALL_FIELDS, SMALL_RULES)


def talk_of(hearing=(), said=(), phrases=SMALL_PHRASES):
    """A dialogue of the form of small() in which this was said."""
    talk = Dialogue(small(), phrases, hearing)
    for utterance in said:
        talk.say(utterance)
    return talk


def doubting(*said):
    """The same, with doubtful days, and the size small doubtful."""
    return talk_of(SMALL_HEARING, said)


def pairs_of(text):
    """The facts that are written as `F V, F V`."""
    return tuple(tuple(pair.split()) for pair in text.split(", ")) if text else ()


def seen(talk):
    """All that a dialogue tells of itself."""
    return (talk.prompt(), talk.facts(), talk.sure(), talk.lost())


def word_of(number):
    """Another word for each number below 676."""
    letters = "abcdefghijklmnopqrstuvwxyz"
    return "x" + letters[number // 26] + letters[number % 26]


class DialogueCase(ErrorCase):

    def assert_told(self, talk, facts, sure, lost=False):
        self.assertEqual(talk.facts(), pairs_of(facts))
        self.assertEqual(talk.sure(), pairs_of(sure))
        self.assertIs(talk.lost(), lost)


class TestDialogue(DialogueCase):

    def test_11_at_the_beginning(self):
        for talk in (talk_of(), doubting(), Dialogue(small(), (("hm", NO),), [])):
            self.assert_told(talk, "", "")
            self.assertEqual(talk.prompt(), ("ask", "day"))

    def test_11_what_is_no_form(self):
        others = (SMALL_FIELDS, (SMALL_FIELDS, SMALL_RULES), [listed(SMALL_FIELDS), []], "day", ("day", "mon"))
        for thing in ODD_THINGS + EMPTY_ROWS + others:
            self.assert_bad(0, Dialogue, thing, SMALL_PHRASES, ())

    def test_11_what_are_no_phrases(self):
        things = list(ODD_THINGS) + [(), [], ("yes", YES), (("yes", YES, YES),), (("yes",),), ("yes",), (("Yes", YES),)]
        things += [(("yes", act),) for act in odd_acts() + wrong_acts()]
        things += [(("yes", YES), ["yes", ["yes"]]), SMALL_PHRASES * 2, (("a b c d e f g", YES),)]
        things += [tuple((word_of(at), YES) for at in range(61))]
        for thing in things:
            self.assert_bad(1, Dialogue, small(), thing, ())

    def test_11_what_is_no_hearing(self):
        things = list(ODD_THINGS) + ["ab", ("one", "on"), (("one",),), (("one", "on", "on"),), ("ab",), nested(9, "on")]
        things += [(("one", "On"),), (("one", ""),), (("one", None),), [["one", "on"], []], (("a b", "ab"),)]
        for thing in things:
            self.assert_bad(2, Dialogue, small(), SMALL_PHRASES, thing)

    def test_11_the_first_wrong_argument(self):
        self.assert_bad(0, Dialogue, None, None, None)
        self.assert_bad(0, Dialogue, SMALL_FIELDS, SMALL_PHRASES, None)
        self.assert_bad(1, Dialogue, small(), (), None)
        self.assert_bad(1, Dialogue, Form((("a", ("b",)),), ()), SMALL_PHRASES, None)
        self.assert_bad(2, Dialogue, small(), SMALL_PHRASES, None)

    def test_11_a_fact_is_sure_at_once_if_not_doubtful(self):
        talk = doubting("large", "at two")
        self.assert_told(talk, "size big, hour two", "size big, hour two")
        self.assert_told(doubting("little"), "size small", "")
        self.assert_told(doubting("on monday at one"), "day mon, hour one", "hour one")
        self.assert_told(talk_of((), ["on monday little at one"]), "day mon, size small, hour one",
                         "day mon, size small, hour one")


class TestPrompt(DialogueCase):

    def test_12_ask_the_first_open_field(self):
        self.assertEqual(talk_of().prompt(), ("ask", "day"))
        self.assertEqual(talk_of((), ["on tuesday"]).prompt(), ("ask", "size"))
        self.assertEqual(talk_of((), ["on tuesday", "little"]).prompt(), ("ask", "hour"))
        self.assertEqual(talk_of((), ["at one"]).prompt(), ("ask", "day"))

    def test_12_what_can_be_known_is_not_asked(self):
        self.assertEqual(talk_of((), ["on monday"]).prompt(), ("ask", "hour"))
        self.assertEqual(talk_of((), ["large"]).prompt(), ("ask", "hour"))
        self.assertEqual(talk_of((), ["little"]).prompt(), ("ask", "day"))

    def test_12_done(self):
        self.assertEqual(talk_of((), ["at two"]).prompt(), ("done", pairs_of("day tue, size big, hour two")))
        self.assertEqual(talk_of((), ["on monday", "at three"]).prompt(),
                         ("done", pairs_of("day mon, size small, hour three")))
        self.assertEqual(talk_of((), ["at one large on tuesday"]).prompt(),
                         ("done", pairs_of("day tue, size big, hour one")))

    def test_12_a_form_of_one_filling_is_done_at_once(self):
        talk = Dialogue(Form((("a", ("b",)), ("c", ("d", "e"))), ((("c", "d"),),)), (("yes", YES),), ())
        self.assertEqual(talk.prompt(), ("done", (("a", "b"), ("c", "e"))))
        self.assertEqual(talk.say("yes"), ("done", (("a", "b"), ("c", "e"))))
        self.assertEqual(talk.facts(), ())

    def test_12_confirm_the_first_fact_that_is_not_sure(self):
        self.assertEqual(doubting("on monday").prompt(), ("confirm", "day", "mon"))
        self.assertEqual(doubting("little").prompt(), ("confirm", "size", "small"))
        self.assertEqual(doubting("little at one on tuesday").prompt(), ("confirm", "day", "tue"))
        self.assertEqual(doubting("little", "on tuesday", "yes").prompt(), ("confirm", "size", "small"))

    def test_12_clash(self):
        self.assertEqual(talk_of((), ["large on monday"]).prompt(), ("clash", pairs_of("day mon, size big")))
        self.assertEqual(talk_of((), ["at two", "on monday"]).prompt(), ("clash", pairs_of("day mon, hour two")))
        self.assertEqual(talk_of((), ["at two", "on tuesday", "little"]).prompt(),
                         ("clash", pairs_of("size small, hour two")))

    def test_12_clash_ahead_of_confirm(self):
        self.assertEqual(doubting("on monday large").prompt(), ("clash", pairs_of("day mon, size big")))
        self.assertEqual(doubting("little at two").prompt(), ("clash", pairs_of("size small, hour two")))

    def test_12_confirm_ahead_of_ask_and_of_done(self):
        self.assertEqual(doubting("little").prompt(), ("confirm", "size", "small"))
        self.assertEqual(doubting("little", "yes").prompt(), ("ask", "day"))
        self.assertEqual(doubting("on monday at one").prompt(), ("confirm", "day", "mon"))
        self.assertEqual(doubting("on monday at one", "yes").prompt(),
                         ("done", pairs_of("day mon, size small, hour one")))

    def test_12_again_ahead_of_all(self):
        for said in ("on monday", "little", "on monday large", "at one", "on tuesday large at one"):
            for hearing in ((), SMALL_HEARING):
                self.assertEqual(talk_of(hearing, [said, "what"]).prompt(), AGAIN)
        self.assertEqual(talk_of((), ["what"]).prompt(), AGAIN)

    def test_12_a_form_without_fillings(self):
        barren = Form((("a", ("b", "c")),), ((("a", "b"),), (("a", "c"),)))
        be = ("set", "a", "b")
        for phrases in ((("be", be), ("yes", YES)), (("be", be), ("be", NO), ("yes", YES))):
            talk = Dialogue(barren, phrases, ())
            self.assertEqual(talk.prompt(), ("clash", ()))
            self.assertEqual(talk.say("yes"), ("clash", ()))
            self.assertEqual(talk.say("hm"), AGAIN)
            self.assertEqual(talk.say("yes"), ("clash", ()))
        talk = Dialogue(barren, (("be", be), ("no", NO)), (("no", "be"),))
        self.assertEqual(talk.say("be"), ("clash", ()))
        self.assertEqual(talk.say("no"), ("clash", ()))
        self.assertEqual((talk.facts(), talk.sure()), ((("a", "b"),), ()))

    def test_12_telling_changes_nothing(self):
        for talk in (talk_of(), doubting("on monday"), doubting("on monday large"), talk_of((), ["at two"]),
                     doubting("on monday", "what")):
            before = seen(talk)
            for _ in range(3):
                self.assertEqual(seen(talk), before)


class TestUnderstanding(DialogueCase):

    def test_13_the_example_of_the_overview(self):
        form = Form((("day", ("mon", "tue")), ("size", ("big", "small"))), ((("day", "mon"), ("size", "big")),))
        phrases = (("on monday", ("set", "day", "mon")), ("large", ("set", "size", "big")), ("no", ("no",)))
        talk = Dialogue(form, phrases, ())
        self.assertEqual(talk.prompt(), ("ask", "day"))
        self.assertEqual(talk.say("large"), ("done", (("day", "tue"), ("size", "big"))))

    def test_13_the_prompt_is_told(self):
        talk = doubting()
        for utterance in ("on monday", "hm", "yes", "large", "any size", "at three", "", "any hour"):
            self.assertEqual(talk.say(utterance), talk.prompt())

    def test_13_several_acts_one_behind_the_other(self):
        talk = talk_of()
        self.assertEqual(talk.say("on monday on tuesday"), ("ask", "size"))
        self.assert_told(talk, "day tue", "day tue")
        self.assertEqual(talk.say("any day on monday little"), ("ask", "hour"))
        self.assert_told(talk, "day mon, size small", "day mon, size small")
        talk.say("at one any hour large not monday")
        self.assert_told(talk, "size big", "size big")
        talk.say("not monday on monday")
        self.assert_told(talk, "day mon, size big", "day mon, size big")

    def test_13_what_is_asked_ahead_of_each_act(self):
        self.assert_told(doubting("on monday yes"), "day mon", "day mon")
        self.assert_told(doubting("yes on monday"), "day mon", "")
        self.assert_told(doubting("on monday no"), "", "")
        self.assert_told(doubting("on monday on monday"), "day mon", "day mon")
        self.assert_told(doubting("on monday on monday on monday"), "day mon", "")
        self.assert_told(doubting("little on tuesday yes"), "day tue, size small", "day tue")
        self.assert_told(doubting("little on tuesday yes yes"), "day tue, size small", "day tue, size small")
        self.assert_told(doubting("little on tuesday no yes"), "size small", "size small")
        self.assert_told(doubting("little on tuesday no no"), "", "")
        self.assert_told(doubting("on monday large yes"), "day mon, size big", "size big")
        self.assert_told(doubting("on monday large any size yes"), "day mon", "day mon")

    def test_13_no_reading(self):
        for utterance in ("hm", "on", "monday", "yes hm", "On monday", "on\tmonday", "\n", "at four", "\u00e9"):
            talk = doubting("little at one")
            self.assertEqual(talk.say(utterance), AGAIN)
            self.assert_told(talk, "size small, hour one", "hour one", lost=True)

    def test_13_several_readings(self):
        phrases = SMALL_PHRASES + (("on", NO), ("monday", NO), ("right", NO))
        for utterance in ("on monday", "at two on monday", "right", "at two right", "right right"):
            talk = talk_of((), ["at one"], phrases)
            self.assertGreater(len(meanings(small(), phrases, utterance)), 1)
            self.assertEqual(talk.say(utterance), AGAIN)
            self.assert_told(talk, "hour one", "hour one", lost=True)

    def test_13_several_ways_of_one_reading(self):
        phrases = (("a", ("drop", "day")), ("a b", ("drop", "day")), ("b c", ("set", "size", "big")),
                   ("c", ("set", "size", "big")))
        talk = talk_of((), ["a b c"], phrases)
        self.assert_told(talk, "size big", "size big")

    def test_13_the_empty_reading(self):
        for utterance in ("", " ", "       "):
            talk = doubting("on monday")
            self.assertEqual(talk.say(utterance), AGAIN)
            self.assert_told(talk, "day mon", "", lost=True)

    def test_13_more_than_thirty_words(self):
        talk = talk_of()
        self.assertEqual(talk.say(" ".join(["on monday"] * 15)), ("ask", "hour"))
        self.assertEqual(talk.say(" ".join(["on tuesday"] * 15 + ["yes"])), AGAIN)
        self.assert_told(talk, "day mon", "day mon", lost=True)
        self.assertEqual(talk.say("x" * 200000), AGAIN)
        self.assertEqual(talk.say("on " * 60000), AGAIN)
        self.assert_told(talk, "day mon", "day mon", lost=True)

    def test_13_more_than_two_hundred_readings(self):
        set_it = ("set", "ape", "w")
        phrases = tuple(("a", act) for act in all_acts(WIDE_FIELDS) if act != set_it) + (("b", set_it),)
        talk = Dialogue(Form(WIDE_FIELDS, ()), phrases, ())
        talk.say("b")
        with self.assertRaises(TooMany):
            meanings(talk.form(), phrases, "a a")
        self.assertEqual(talk.say("a a"), AGAIN)
        self.assertEqual((talk.facts(), talk.sure(), talk.lost()), ((("ape", "w"),), (("ape", "w"),), True))
        self.assertEqual(talk.say("b"), ("ask", "bee"))
        self.assertIs(talk.lost(), False)

    def test_13_no_longer_lost_behind_the_next(self):
        talk = doubting("on monday", "hm", "")
        self.assertIs(talk.lost(), True)
        self.assertEqual(talk.say("at one"), ("confirm", "day", "mon"))
        self.assert_told(talk, "day mon, hour one", "hour one")
        for utterance in ("not tuesday", "any size", "no", "no"):
            talk.say("hm")
            self.assertIs(talk.lost(), True)
            talk.say(utterance)
            self.assertIs(talk.lost(), False)

    def test_13_what_is_no_string(self):
        things = [odd for odd in ODD_THINGS if not isinstance(odd, str)] + [("yes",), ["yes"], YES, (YES,)]
        for said in (["on monday"], ["on monday", "hm"], []):
            talk = doubting(*said)
            before = seen(talk)
            for thing in things + list(EMPTY_ROWS):
                self.assert_bad(0, talk.say, thing)
                self.assertEqual(seen(talk), before)


class TestActs(DialogueCase):

    def test_13_set_another_value(self):
        self.assert_told(talk_of((), ["on monday", "on tuesday"]), "day tue", "day tue")
        self.assert_told(doubting("on monday", "on tuesday"), "day tue", "")
        self.assert_told(doubting("on monday", "yes", "on tuesday"), "day tue", "")
        self.assert_told(doubting("large", "little"), "size small", "")
        self.assert_told(doubting("little", "large"), "size big", "size big")
        self.assertEqual(doubting("on monday", "on tuesday").prompt(), ("confirm", "day", "tue"))

    def test_13_set_the_same_value_that_is_asked(self):
        self.assert_told(doubting("on monday", "on monday"), "day mon", "day mon")
        self.assert_told(doubting("little", "little"), "size small", "size small")
        self.assert_told(doubting("on monday", "hm", "on monday"), "day mon", "day mon")

    def test_13_set_the_same_value_that_is_not_asked(self):
        # Asked is the day, so the size is not sure though it is told again.
        self.assert_told(doubting("on tuesday little", "little"), "day tue, size small", "")
        # Asked is the clash.
        self.assert_told(doubting("on monday large", "on monday"), "day mon, size big", "size big")

    def test_13_set_the_same_value_that_was_confirmed(self):
        talk = doubting("on monday", "yes")
        self.assert_told(talk, "day mon", "day mon")
        self.assertEqual(talk.say("on monday"), ("confirm", "day", "mon"))
        self.assert_told(talk, "day mon", "")
        self.assertEqual(talk.say("on monday"), ("ask", "hour"))
        self.assert_told(talk, "day mon", "day mon")
        self.assert_told(doubting("large", "large"), "size big", "size big")

    def test_13_set_one_while_another_is_confirmed(self):
        talk = doubting("on monday", "little")
        self.assert_told(talk, "day mon, size small", "")
        self.assertEqual(talk.say("yes"), ("confirm", "size", "small"))
        self.assert_told(talk, "day mon, size small", "day mon")
        self.assertEqual(talk.say("on tuesday"), ("confirm", "day", "tue"))
        self.assert_told(talk, "day tue, size small", "")

    def test_13_set_leaves_the_others(self):
        talk = doubting("on tuesday yes little at one", "large")
        self.assert_told(talk, "day tue, size big, hour one", "day tue, size big, hour one")

    def test_13_not(self):
        self.assert_told(talk_of((), ["on monday", "not monday"]), "", "")
        self.assert_told(talk_of((), ["on monday", "not tuesday"]), "day mon", "day mon")
        self.assert_told(talk_of((), ["not monday"]), "", "")
        self.assert_told(doubting("on monday", "not monday"), "", "")
        self.assert_told(doubting("on monday", "not tuesday"), "day mon", "")
        self.assert_told(doubting("on monday", "yes", "not monday"), "", "")
        self.assert_told(doubting("on monday", "yes", "not tuesday"), "day mon", "day mon")
        self.assert_told(doubting("large at two", "not large"), "hour two", "hour two")
        self.assert_told(doubting("large at two", "not at two not monday"), "size big", "size big")

    def test_13_not_is_not_kept(self):
        talk = talk_of((), ["not monday"])
        self.assertEqual(talk.prompt(), ("ask", "day"))
        self.assertEqual(talk.say("on monday"), ("ask", "hour"))

    def test_13_drop(self):
        self.assert_told(talk_of((), ["on monday large", "any day"]), "size big", "size big")
        self.assert_told(talk_of((), ["large", "any day"]), "size big", "size big")
        self.assert_told(talk_of((), ["any day any size any hour"]), "", "")
        self.assert_told(doubting("on monday", "any day"), "", "")
        self.assert_told(doubting("on monday yes little", "any size"), "day mon", "day mon")
        self.assertEqual(doubting("on monday", "any day").prompt(), ("ask", "day"))

    def test_13_what_is_set_again_behind_a_drop_is_not_sure(self):
        self.assert_told(doubting("on monday yes", "any day", "on monday"), "day mon", "")
        self.assert_told(doubting("on monday yes", "not monday", "on monday"), "day mon", "")
        self.assert_told(doubting("on monday yes on tuesday on monday"), "day mon", "")

    def test_13_yes(self):
        talk = doubting("on monday")
        self.assertEqual(talk.say("yes"), ("ask", "hour"))
        self.assert_told(talk, "day mon", "day mon")
        self.assert_told(doubting("on tuesday little", "right"), "day tue, size small", "day tue")

    def test_13_no(self):
        talk = doubting("on monday")
        self.assertEqual(talk.say("no"), ("ask", "day"))
        self.assert_told(talk, "", "")
        self.assert_told(doubting("on tuesday little", "no"), "size small", "")
        self.assert_told(doubting("on tuesday yes little", "no"), "day tue", "day tue")

    def test_13_yes_and_no_while_no_confirm_is_asked(self):
        for word in ("yes", "right", "no"):
            self.assert_told(talk_of((), [word]), "", "")
            self.assert_told(doubting("at one", word), "hour one", "hour one")
            self.assert_told(doubting("on monday", "yes", word), "day mon", "day mon")
            self.assert_told(doubting("on monday large", word), "day mon, size big", "size big")
            self.assert_told(talk_of((), ["at two", word]), "hour two", "hour two")
            self.assert_told(doubting("on monday at one yes", word), "day mon, hour one", "day mon, hour one")

    def test_13_asked_is_told_as_if_it_were_not_lost(self):
        self.assert_told(doubting("on monday", "hm", "yes"), "day mon", "day mon")
        self.assert_told(doubting("on monday", "hm", "hm", "right"), "day mon", "day mon")
        self.assert_told(doubting("on monday", "", "no"), "", "")
        self.assert_told(doubting("hm", "yes"), "", "")
        self.assert_told(doubting("on monday large", "hm", "yes"), "day mon, size big", "size big")
        self.assert_told(doubting("on monday large", "hm", "no"), "day mon, size big", "size big")

    def test_13_a_text_of_two_acts_is_lost_however_it_is_doubtful(self):
        phrases = (("mon", ("set", "day", "mon")), ("mon", ("set", "day", "tue")), ("late", ("set", "day", "tue")),
                   ("yes", YES))
        talk = talk_of((), ["late"], phrases)
        self.assertEqual(talk.prompt(), ("confirm", "day", "tue"))
        self.assertEqual(talk.say("mon"), AGAIN)
        self.assertEqual(talk.say("yes"), ("ask", "size"))

    def test_13_as_told_by_a_plain_dialogue(self):
        kinds = {}
        for seed in range(250):
            chance = Random(seed)
            fields, rules = random_parts(seed)
            acts = all_acts(fields)
            acts = YES_AND_NO + tuple(chance.sample(acts, min(len(acts), chance.randint(3, 14))))
            phrases = tuple((word_of(at % 14), act) for at, act in enumerate(dict.fromkeys(acts)))
            texts = [text for text, _ in phrases] + [word_of(14)]
            hearing = [(chance.choice(texts), chance.choice(texts)) for _ in range(chance.randint(0, 12))]
            talk, plain = Dialogue(Form(fields, rules), phrases, hearing), PlainTalk(fields, rules, phrases, hearing)
            self.assertEqual(talk.prompt(), plain.prompt())
            for _ in range(12):
                utterance = " ".join(chance.choice(texts) for _ in range(chance.choice((0, 1, 1, 1, 2, 2, 3))))
                prompt = talk.say(utterance)
                self.assertEqual(prompt, plain.say(utterance), (fields, rules, phrases, hearing, utterance))
                self.assertEqual(seen(talk), (prompt, plain.facts(), plain.sure(), plain.lost))
                kinds[prompt[0]] = kinds.get(prompt[0], 0) + 1
        for kind in ("again", "clash", "confirm", "ask", "done"):
            self.assertGreater(kinds[kind], 100, kinds)


class TestKept(DialogueCase):

    def test_14_facts_and_sure_in_the_sequence_of_fields(self):
        self.assert_told(doubting("at one little on tuesday"), "day tue, size small, hour one", "hour one")
        talk = doubting("at one", "little yes", "on tuesday yes")
        self.assert_told(talk, "day tue, size small, hour one", "day tue, size small, hour one")
        fields = (("fox", ("w", "v")), ("ape", ("z", "a")))
        phrases = (("p", ("set", "ape", "z")), ("q", ("set", "fox", "v")))
        talk = Dialogue(Form(fields, ()), phrases, (("p", "q"), ("q", "p")))
        talk.say("p q")
        self.assertEqual((talk.facts(), talk.sure()), ((("fox", "v"), ("ape", "z")), ()))

    def test_14_facts_that_clash_are_told(self):
        self.assert_told(talk_of((), ["large on monday"]), "day mon, size big", "day mon, size big")

    def test_14_only_what_was_said_is_a_fact(self):
        talk = talk_of((), ["at two"])
        self.assertEqual(talk.prompt()[0], "done")
        self.assert_told(talk, "hour two", "hour two")

    def test_14_a_copy_is_the_same(self):
        for said in ([], ["on monday"], ["on monday", "hm"], ["little on tuesday", "yes"], ["on monday large", ""]):
            talk = doubting(*said)
            other = talk.copy()
            self.assertIsInstance(other, Dialogue)
            self.assertIsNot(other, talk)
            self.assertEqual(seen(other), seen(talk))
            self.assertEqual(other.form(), talk.form())
            self.assertEqual((other.phrases(), other.hearing()), (talk.phrases(), talk.hearing()))

    def test_14_a_copy_changes_by_itself(self):
        talk = doubting("on monday", "at one")
        other, before = talk.copy(), seen(talk)
        for utterance in ("yes", "little", "any hour", "hm", "no", "on tuesday"):
            other.say(utterance)
            self.assertNotEqual(seen(other), before)
            self.assertEqual(seen(talk), before)

    def test_14_so_does_the_elder_one(self):
        talk = doubting("on monday", "at one", "hm")
        other, before = talk.copy(), seen(talk)
        for utterance in ("yes", "little", "any hour", "no", "on tuesday"):
            talk.say(utterance)
            self.assertEqual(seen(other), before)
        third = other.copy()
        other.say("yes")
        self.assertEqual(seen(third), before)
        self.assertEqual(third.say("yes"), other.prompt())

    def test_14_a_copy_knows_the_hearing(self):
        other = doubting().copy()
        self.assertEqual(other.say("on monday"), ("confirm", "day", "mon"))

    def test_14_form_phrases_hearing(self):
        talk = doubting("on monday")
        self.assertEqual(talk.form(), small())
        self.assertIsInstance(talk.form(), Form)
        self.assertEqual(talk.phrases(), SMALL_PHRASES)
        self.assertEqual(talk.hearing(), SMALL_HEARING)
        hearing = SMALL_HEARING[::-1] + SMALL_HEARING
        other = Dialogue(small(), SMALL_PHRASES[::-1], hearing)
        self.assertEqual((other.phrases(), other.hearing()), (SMALL_PHRASES[::-1], hearing))
        self.assertEqual((talk_of().hearing(), talk_of([]).hearing()), ((), ()))

    def test_14_lists_are_taken_and_tuples_told(self):
        talk = Dialogue(small(), listed(SMALL_PHRASES), listed(SMALL_HEARING))
        self.assertEqual((talk.phrases(), talk.hearing()), (SMALL_PHRASES, SMALL_HEARING))
        for utterance in ("on monday", "yes", "large", "any size little", "hm", "not monday at two"):
            self.assertTrue(only_tuples(talk.say(utterance)))
            for told in (talk.facts(), talk.sure(), talk.phrases(), talk.hearing(), talk.copy().phrases()):
                self.assertTrue(only_tuples(told))

    def test_1_later_changes_have_no_effect(self):
        phrases, hearing = listed(SMALL_PHRASES), listed(SMALL_HEARING)
        talk = Dialogue(small(), phrases, hearing)
        phrases[0][1][2] = "tue"
        phrases[1][0] = "hm"
        phrases[2][1].append("x")
        del phrases[3:]
        hearing[0][1] = "friday"
        del hearing[1:]
        self.assertEqual((talk.phrases(), talk.hearing()), (SMALL_PHRASES, SMALL_HEARING))
        self.assertEqual(talk.say("on monday"), ("confirm", "day", "mon"))
        self.assertEqual(talk.say("hm"), AGAIN)
        self.assertEqual(talk.copy().say("little"), ("confirm", "day", "mon"))

    def test_1_arguments_stay_as_they_were(self):
        form, phrases, hearing = small(), listed(SMALL_PHRASES), listed(SMALL_HEARING)
        kept = copy.deepcopy((phrases, hearing))
        talk = Dialogue(form, phrases, hearing)
        for utterance in ("on monday", "yes any day", "large", "hm"):
            talk.say(utterance)
        self.assert_bad(2, Dialogue, form, phrases, hearing + [None])
        self.assertEqual((phrases, hearing), kept)
        self.assertEqual(form, small())

    def test_14_what_is_asked_and_what_is_done(self):
        asked, done, confirmed = 0, 0, 0
        for seed in range(150):
            chance = Random(seed)
            fields, rules = random_parts(seed)
            form, acts = Form(fields, rules), YES_AND_NO + all_acts(fields)[:30]
            phrases = tuple((word_of(at), act) for at, act in enumerate(dict.fromkeys(acts)))
            hearing = [(word_of(chance.randrange(32)), word_of(chance.randrange(32))) for _ in range(9)]
            talk, doubts = Dialogue(form, phrases, hearing), doubtful(form, phrases, hearing)
            for _ in range(15):
                prompt = talk.say(word_of(chance.randrange(len(phrases))))
                if prompt[0] == "ask":
                    self.assertGreater(len(possible(form, talk.facts(), prompt[1])), 1)
                    asked += 1
                if prompt[0] == "confirm":
                    self.assertIn(prompt[1:], doubts)
                    self.assertNotIn(prompt[1:], talk.sure())
                    confirmed += 1
                if prompt[0] == "done":
                    self.assertEqual(fillings(form, talk.facts()), (prompt[1],))
                    done += 1
                if prompt[0] == "clash":
                    self.assertEqual(prompt[1], clash(form, talk.facts()))
        self.assertGreater(min(asked, done, confirmed), 100)

    def test_14_a_confirmed_value_is_not_asked_again(self):
        talk = doubting("on monday", "yes")
        for utterance in ("large", "hm", "any size", "at one", "not tuesday", "not at two", "yes", "no", ""):
            self.assertNotEqual(talk.say(utterance)[0], "confirm")
            self.assertIn(("day", "mon"), talk.sure())


class TestBasics(DialogueCase):

    def test_1_by_position_and_by_name(self):
        talk = Dialogue(hearing=SMALL_HEARING, phrases=SMALL_PHRASES, form=small())
        self.assertEqual(talk.say(utterance="on monday"), ("confirm", "day", "mon"))
        self.assertEqual(Dialogue(small(), SMALL_PHRASES, hearing=()).say("on monday"), ("ask", "hour"))
        with self.assertRaises(BadValue) as caught:
            talk.say(utterance=None)
        self.assertEqual(caught.exception.at, 0)
        with self.assertRaises(BadValue) as caught:
            Dialogue(hearing=None, phrases=(), form=small())
        self.assertEqual(caught.exception.at, 1)

    def test_1_equal_calls_give_equal_results(self):
        one, two = doubting(), Dialogue(small(), listed(SMALL_PHRASES), listed(SMALL_HEARING))
        for utterance in ("on monday", "hm", "yes yes", "large", "at one at two", "any size", "", "little no"):
            self.assertEqual(one.say(utterance), two.say(utterance))
            self.assertEqual(seen(one), seen(two))

    def test_1_dialogues_of_one_form_do_not_mix(self):
        form = small()
        one, two = Dialogue(form, SMALL_PHRASES, ()), Dialogue(form, SMALL_PHRASES, ())
        one.say("on monday")
        two.say("hm")
        self.assert_told(one, "day mon", "day mon")
        self.assert_told(two, "", "", lost=True)

    def test_1_no_deep_nesting_of_calls(self):
        fields = tuple((name, tuple("vwxyz")[:many]) for name, many in zip("fedcba", (3, 3, 3, 3, 3, 4)))
        phrases = tuple(("say " + name, ("set", name, "v")) for name, _ in fields) + (("say", YES),)
        with shallow_calls():
            talk = Dialogue(Form(fields, ()), phrases, ())
            prompts = [talk.say("  ".join(["say a", "say b", "say c", "say d", "say e"] * 3)), talk.say("say f")]
            copied = talk.copy().facts()
        self.assertEqual(prompts, [("ask", "f"), ("done", copied)])

    def test_1_methods_defined_in_the_class(self):
        for name in ("__init__", "prompt", "say", "facts", "sure", "lost", "copy", "form", "phrases", "hearing"):
            self.assertIn(name, vars(Dialogue))
        self.assertEqual(Dialogue.__module__, "sayfill.dialogues")

    def test_14_a_dialogue_with_many_acts_in_good_time(self):
        chance = Random(5)
        rules = [random_facts(chance, WIDE_FIELDS, 3, 4) for _ in range(20)]
        acts = [("set", name, value) for name, values in WIDE_FIELDS for value in values]
        phrases = [(word_of(at), act) for at, act in enumerate(acts)] + [(word_of(at), NO) for at in range(30, 35)]
        hearing = [(word_of(30), word_of(at)) for at in range(len(acts))]
        form = Form(WIDE_FIELDS, rules)
        talk, plain = Dialogue(form, phrases, hearing), PlainTalk(WIDE_FIELDS, rules, phrases, hearing)
        for _ in range(3):
            utterance = " ".join(word_of(chance.randrange(len(acts))) for _ in range(30))
            self.assertEqual(talk.say(utterance), plain.say(utterance))


if __name__ == "__main__":
    unittest.main()
