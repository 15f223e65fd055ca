"""Promises [1] and [19]: sayfill/users.py."""

import copy
import unittest
from random import Random
from unittest.mock import patch

from sayfill import users
from sayfill.dialogues import Dialogue
from sayfill.errors import NothingThere, TooMany
from sayfill.filling import fillings
from sayfill.forms import Form
from sayfill.hearing import doubtful
from sayfill.users import served

from helpers import (
    ODD_THINGS, SMALL_FIELDS, SMALL_HEARING, SMALL_PHRASES, SMALL_RULES, ErrorCase, PlainTalk, listed, only_tuples,
    odd_facts, random_parts, shallow_calls, wrong_facts,
)
from plain_machines import word_of

YES, NO = ("yes",), ("no",)


def small(hearing=(), said=(), phrases=SMALL_PHRASES):
    """A dialogue of the small form, in which this was said."""
    talk = Dialogue(Form(SMALL_FIELDS, SMALL_RULES), phrases, hearing)
    for utterance in said:
        talk.say(utterance)
    return talk


def user(*values):
    """A filling of the small form."""
    return tuple(zip(("day", "size", "hour"), values))


def seen(talk):
    """All that a dialogue tells of itself."""
    return (talk.prompt(), talk.facts(), talk.sure(), talk.lost(), talk.form(), talk.phrases(), talk.hearing())


def phrases_of(fields, others=(YES,)):
    """A phrase for each set of a form with the fields, and for the others."""
    acts = [("set", name, value) for name, values in fields for value in values] + list(others)
    return tuple((word_of(at), act) for at, act in enumerate(acts))


def plain_answer(prompt, filling):
    """The act with which the user answers, or None."""
    own = dict(filling)
    if prompt[0] == "ask":
        return ("set", prompt[1], own[prompt[1]])
    if prompt[0] == "confirm":
        return YES if own[prompt[1]] == prompt[2] else ("set", prompt[1], own[prompt[1]])
    if prompt[0] == "clash":
        others = [("set", name, own[name]) for name, value in prompt[1] if own[name] != value]
        return others[0] if others else None
    return None


def plain_served(talk, acts, filling):
    """What served tells, found with a PlainTalk that is changed, or the word of the error."""
    row = [talk.prompt()]
    while row[-1][0] != "done":
        act = plain_answer(row[-1], filling)
        if act not in acts:
            return "act"
        talk.act(act, talk.asked())
        talk.lost = False
        row += [act, talk.prompt()]
        if len(row) > 81:
            return "turns"
    return tuple(row)


class UserCase(ErrorCase):

    def assert_nothing(self, talk, filling):
        with self.assertRaises(NothingThere) as caught:
            served(talk, filling)
        self.assertEqual(caught.exception.word, "act")


class TestServed(UserCase):

    def test_19_ask(self):
        filling = user("tue", "big", "one")
        self.assertEqual(served(small(), filling), (
            ("ask", "day"), ("set", "day", "tue"), ("ask", "size"), ("set", "size", "big"),
            ("ask", "hour"), ("set", "hour", "one"), ("done", filling)))

    def test_19_what_can_be_known_is_not_told(self):
        filling = user("mon", "small", "three")
        self.assertEqual(served(small(), filling), (
            ("ask", "day"), ("set", "day", "mon"), ("ask", "hour"), ("set", "hour", "three"), ("done", filling)))

    def test_19_confirm_of_the_own_value(self):
        filling = user("mon", "small", "one")
        self.assertEqual(served(small(SMALL_HEARING), filling), (
            ("ask", "day"), ("set", "day", "mon"), ("confirm", "day", "mon"), YES,
            ("ask", "hour"), ("set", "hour", "one"), ("done", filling)))

    def test_19_confirm_of_another_value(self):
        filling = user("tue", "big", "two")
        self.assertEqual(served(small(SMALL_HEARING, ["on monday"]), filling), (
            ("confirm", "day", "mon"), ("set", "day", "tue"), ("confirm", "day", "tue"), YES,
            ("ask", "size"), ("set", "size", "big"), ("ask", "hour"), ("set", "hour", "two"), ("done", filling)))
        filling = user("tue", "big", "one")
        self.assertEqual(served(small(SMALL_HEARING, ["little"]), filling), (
            ("confirm", "size", "small"), ("set", "size", "big"), ("ask", "hour"), ("set", "hour", "one"),
            ("done", filling)))

    def test_19_clash(self):
        lot = (("day", "mon"), ("size", "big"))
        talk = small((), ["large on monday"])
        self.assertEqual(served(talk, user("tue", "big", "two")), (
            ("clash", lot), ("set", "day", "tue"), ("ask", "hour"), ("set", "hour", "two"),
            ("done", user("tue", "big", "two"))))
        # Of the first field with another value, though this is not the first of the lot.
        self.assertEqual(served(talk, user("mon", "small", "one"))[:3], (
            ("clash", lot), ("set", "size", "small"), ("ask", "hour")))
        self.assertEqual(served(talk, user("tue", "small", "one"))[:5], (
            ("clash", lot), ("set", "day", "tue"), ("ask", "hour"), ("set", "hour", "one"),
            ("done", user("tue", "big", "one"))))

    def test_19_clash_with_none_to_set(self):
        # A filling that has all values of the lot would fit it, so served never comes to this.
        value_of = dict(user("tue", "big", "one"))
        for lot in ((), (("day", "tue"),), (("day", "tue"), ("hour", "one"))):
            self.assertIsNone(users._answer(value_of, ("clash", lot)))
        self.assertIsNone(users._answer(value_of, ("again",)))

    def test_19_whichever_filling_is_done(self):
        talk = small((), ["on monday at one"])
        told = ("done", user("mon", "small", "one"))
        for filling in fillings(talk.form(), ()):
            self.assertEqual(served(talk, filling), (told,))
        self.assertEqual(served(small((), ["on tuesday large"]), user("mon", "small", "one")),
                         (("ask", "hour"), ("set", "hour", "one"), ("done", user("tue", "big", "one"))))

    def test_19_again(self):
        for said in (["hm"], ["on monday", ""], ["on monday at one", "what"], ["large on monday", "hm"]):
            for filling in fillings(small().form(), ()):
                self.assert_nothing(small((), said), filling)
                self.assert_nothing(small(SMALL_HEARING, said), filling)

    def test_19_an_answer_without_a_phrase(self):
        phrases = tuple(phrase for phrase in SMALL_PHRASES if phrase[1] != ("set", "day", "mon"))
        self.assert_nothing(small((), (), phrases), user("mon", "small", "one"))
        self.assertEqual(served(small((), (), phrases), user("tue", "small", "one"))[1], ("set", "day", "tue"))
        phrases = tuple(phrase for phrase in SMALL_PHRASES if phrase[1] != YES)
        self.assert_nothing(small(SMALL_HEARING, (), phrases), user("mon", "small", "one"))
        self.assertEqual(served(small((), (), phrases), user("mon", "small", "one"))[-1][0], "done")
        phrases = tuple(phrase for phrase in SMALL_PHRASES if phrase[1] != ("set", "hour", "two"))
        self.assert_nothing(small((), ["on tuesday large"], phrases), user("tue", "big", "two"))
        self.assert_nothing(small((), (), (("no", NO),)), user("tue", "big", "two"))

    def test_19_an_answer_to_a_clash_or_a_confirm_without_a_phrase(self):
        phrases = tuple(phrase for phrase in SMALL_PHRASES if phrase[1] != ("set", "size", "small"))
        self.assert_nothing(small((), ["large on monday"], phrases), user("mon", "small", "one"))
        phrases = tuple(phrase for phrase in SMALL_PHRASES if phrase[1] != ("set", "size", "big"))
        phrases = phrases + (("huge", ("drop", "size")),)
        talk = small((("huge", "little"),), ["little"], phrases)
        self.assertEqual(talk.prompt(), ("confirm", "size", "small"))
        self.assert_nothing(talk, user("tue", "big", "two"))

    def test_19_phrases_of_one_text_do_no_harm(self):
        phrases = tuple(("hm", act) for _, act in phrases_of(SMALL_FIELDS))
        filling = user("tue", "big", "two")
        self.assertEqual(served(small((), (), phrases), filling), (
            ("ask", "day"), ("set", "day", "tue"), ("confirm", "day", "tue"), YES,
            ("ask", "size"), ("set", "size", "big"), ("confirm", "size", "big"), YES,
            ("ask", "hour"), ("set", "hour", "two"), ("confirm", "hour", "two"), YES, ("done", filling)))

    def test_19_a_form_of_one_filling(self):
        talk = Dialogue(Form((("a", ("b",)),), ()), (("no", NO),), ())
        self.assertEqual(served(talk, (("a", "b"),)), (("done", (("a", "b"),)),))

    def test_19_a_form_without_fillings_has_no_users(self):
        talk = Dialogue(Form((("a", ("b", "c")),), ((("a", "b"),), (("a", "c"),))), (("no", NO),), ())
        for thing in ((("a", "b"),), (("a", "c"),), (), None):
            self.assert_bad(1, served, talk, thing)

    def test_19_the_dialogue_does_not_change(self):
        for said in ([], ["on monday"], ["on monday", "hm"], ["large on monday"], ["little on tuesday yes", "at one"]):
            for hearing in ((), SMALL_HEARING):
                talk = small(hearing, said)
                before = seen(talk)
                for filling in fillings(talk.form(), ()):
                    try:
                        told = served(talk, filling)
                        self.assertEqual(served(talk.copy(), filling), told)
                    except NothingThere:
                        self.assertIs(talk.lost(), True)
                    self.assertEqual(seen(talk), before)

    def test_19_as_a_plain_dialogue(self):
        found = {}
        for seed in range(200):
            chance = Random(seed)
            fields, rules = random_parts(seed)
            phrases = phrases_of(fields, (YES, NO))
            if chance.random() < 0.3:
                phrases = tuple(chance.sample(phrases, max(1, len(phrases) - 2)))
            texts = [text for text, _ in phrases]
            hearing = [(chance.choice(texts), chance.choice(texts)) for _ in range(chance.randint(0, 9))]
            said = [chance.choice(texts + ["hm"]) for _ in range(chance.choice((0, 1, 2, 4)))]
            talk, form = Dialogue(Form(fields, rules), phrases, hearing), Form(fields, rules)
            for utterance in said:
                talk.say(utterance)
            for filling in fillings(form, ())[:8]:
                plain = PlainTalk(fields, rules, phrases, hearing)
                for utterance in said:
                    plain.say(utterance)
                told = plain_served(plain, [act for _, act in phrases], filling)
                if told == "act":
                    self.assert_nothing(talk, filling)
                    found["none"] = found.get("none", 0) + 1
                    continue
                self.assertEqual(served(talk, filling), told)
                for prompt in told[::2]:
                    found[prompt[0]] = found.get(prompt[0], 0) + 1
        self.assertEqual(sorted(found), ["ask", "clash", "confirm", "done", "none"])
        self.assertGreater(min(found.values()), 50, found)

    def test_19_a_dialogue_just_begun_serves_each_user_its_own(self):
        longest, confirmed = 0, 0
        for seed in range(120):
            chance = Random(seed)
            fields, rules = random_parts(seed)
            phrases = phrases_of(fields)
            texts = [text for text, _ in phrases]
            hearing = [(chance.choice(texts), chance.choice(texts)) for _ in range(chance.randint(0, 40))]
            form = Form(fields, rules)
            talk = Dialogue(form, phrases, hearing)
            confirmed += bool(doubtful(form, phrases, hearing))
            for filling in fillings(form, ()):
                row = served(talk, filling)
                self.assertEqual(row[-1], ("done", filling))
                self.assertLessEqual(len(row) // 2, 2 * len(fields))
                longest = max(longest, len(row) // 2 - len(fields))
        self.assertGreater(longest, 2)
        self.assertGreater(confirmed, 50)

    def test_19_twice_as_many_acts_as_there_are_fields(self):
        fields = tuple((name, ("v", "w")) for name in ("a", "b", "c", "d", "e", "f"))
        phrases = tuple(("hm", act) for _, act in phrases_of(fields))
        talk = Dialogue(Form(fields, ()), phrases, ())
        row = served(talk, tuple((name, "w") for name, _ in fields))
        self.assertEqual(len(row), 25)


class TestTurns(UserCase):

    def test_19_a_forty_first_act(self):
        # No dialogue of forms as they may be takes so many acts, so the bound is made less here.
        filling = user("tue", "big", "one")
        with patch("sayfill.users.MOST_ACTS", 3):
            self.assertEqual(len(served(small(), filling)), 7)
        for most in (0, 1, 2):
            with patch("sayfill.users.MOST_ACTS", most), self.assertRaises(TooMany) as caught:
                served(small(), filling)
            self.assertEqual(caught.exception.word, "turns")

    def test_19_no_answer_ahead_of_too_many_turns(self):
        phrases = tuple(phrase for phrase in SMALL_PHRASES if phrase[1] != ("set", "size", "big"))
        with patch("sayfill.users.MOST_ACTS", 1):
            self.assert_nothing(small((), (), phrases), user("tue", "big", "one"))
        with patch("sayfill.users.MOST_ACTS", 0):
            self.assert_nothing(small((), ["hm"]), user("tue", "big", "one"))
            self.assertRaises(TooMany, served, small((), (), phrases), user("tue", "big", "one"))
            self.assertEqual(len(served(small((), ["at two"]), user("tue", "big", "one"))), 1)

    def test_19_the_bound(self):
        self.assertEqual(users.MOST_ACTS, 40)


class TestFilling(UserCase):

    def test_19_what_is_no_filling(self):
        things = odd_facts() + wrong_facts() + list(ODD_THINGS) + [(), [], "ab"]
        for talk in (small(), small(SMALL_HEARING, ["on monday"]), small((), ["hm"]), small((), ["at two"])):
            for thing in things:
                self.assert_bad(1, served, talk, thing)

    def test_19_in_another_sequence(self):
        filling = user("tue", "big", "one")
        for thing in (filling[::-1], (filling[1], filling[0], filling[2]), filling[1:] + filling[:1]):
            self.assert_bad(1, served, small(), thing)

    def test_19_of_too_few_or_too_many_pairs(self):
        filling = user("tue", "big", "one")
        for thing in (filling[:2], filling[1:], filling[:1], (), filling + filling[:1], filling + (("x", "y"),)):
            self.assert_bad(1, served, small(), thing)
            self.assert_bad(1, served, small(), listed(thing))

    def test_19_of_a_rule_that_is_broken(self):
        for thing in (user("mon", "big", "one"), user("tue", "small", "two"), user("mon", "big", "two")):
            self.assert_bad(1, served, small(), thing)

    def test_19_of_another_form(self):
        self.assert_bad(1, served, small(), (("day", "tue"), ("size", "big"), ("hour", "four")))
        self.assert_bad(1, served, small(), (("day", "tue"), ("sizes", "big"), ("hour", "one")))


class TestBasics(UserCase):

    def test_1_lists(self):
        filling = user("tue", "big", "one")
        for talk in (small(), small(SMALL_HEARING, ["on monday large"])):
            self.assertEqual(served(talk, listed(filling)), served(talk, filling))
            self.assertTrue(only_tuples(served(talk, listed(filling))))
            self.assertEqual(served(talk, [list(filling[0]), filling[1], filling[2]]), served(talk, filling))

    def test_1_by_position_and_by_name(self):
        filling = user("tue", "big", "one")
        self.assertEqual(served(filling=filling, dialogue=small()), served(small(), filling))
        self.assertEqual(served(small(), filling=filling), served(small(), filling))

    def test_1_arguments_stay_as_they_were(self):
        filling = listed(user("tue", "big", "one"))
        kept = copy.deepcopy(filling)
        told = served(small(), filling)
        self.assertEqual(filling, kept)
        filling[0][1] = "mon"
        self.assertEqual(told, served(small(), kept))

    def test_1_no_deep_nesting_of_calls(self):
        with shallow_calls():
            told = served(small(SMALL_HEARING), user("tue", "big", "one"))
        self.assertEqual(told[-1], ("done", user("tue", "big", "one")))

    def test_1_defined_in_its_file(self):
        self.assertEqual(served.__module__, "sayfill.users")


if __name__ == "__main__":
    unittest.main()
