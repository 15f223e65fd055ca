"""Promises [1], [15] and [16]: sayfill/compiling.py."""

import copy
import unittest
from random import Random
from unittest.mock import patch

from sayfill.compiling import compiled
from sayfill.dialogues import Dialogue
from sayfill.errors import TooMany
from sayfill.forms import Form
from sayfill.machines import is_machine, spoken

from helpers import (
    SMALL_FIELDS, SMALL_HEARING, SMALL_PHRASES, SMALL_RULES, WIDE_FIELDS, all_acts, listed, random_facts, shallow_calls,
)
from plain_machines import LOST, plain_alphabet, plain_machine, plain_talk, random_talk, word_of

YES, NO = ("yes",), ("no",)
MON, TUE = ("set", "day", "mon"), ("set", "day", "tue")


def one_field(phrases, hearing=(), said=(), rules=()):
    """A dialogue of a form of one field with two values, in which this was said."""
    talk = Dialogue(Form((("day", ("mon", "tue")),), rules), phrases, hearing)
    for utterance in said:
        talk.say(utterance)
    return talk


def small(hearing=(), said=()):
    """A dialogue of the small form, in which this was said."""
    talk = Dialogue(Form(SMALL_FIELDS, SMALL_RULES), SMALL_PHRASES, hearing)
    for utterance in said:
        talk.say(utterance)
    return talk


def seen(talk):
    """All that a dialogue tells of itself."""
    return (talk.prompt(), talk.facts(), talk.sure(), talk.lost(), talk.form(), talk.phrases(), talk.hearing())


def free(numbers):
    """A form's fields with so many values each, and phrases with all that sets and drops them."""
    fields = tuple((name, tuple("vwxyz")[:many]) for name, many in zip(("a", "b", "c", "d", "e", "f"), numbers))
    acts = [act for act in all_acts(fields) if act[0] in ("set", "drop")]
    return fields, tuple((word_of(at), act) for at, act in enumerate(acts))


ASK, DONE_MON, DONE_TUE = ("ask", "day"), ("done", (("day", "mon"),)), ("done", (("day", "tue"),))
AGAIN = ("again",)


class TestAlphabet(unittest.TestCase):

    def test_15_each_act_once_in_the_sequence_of_the_first_phrases(self):
        phrases = (("no", NO), ("b", TUE), ("nay", NO), ("a", MON), ("yes", YES), ("tue", TUE), ("c", ("drop", "day")))
        alphabet, _, _ = compiled(one_field(phrases))
        self.assertEqual(alphabet, (NO, TUE, MON, YES, ("drop", "day"), LOST))
        self.assertEqual(compiled(one_field(phrases[::-1]))[0], (("drop", "day"), TUE, YES, MON, NO, LOST))

    def test_15_one_act(self):
        self.assertEqual(compiled(one_field((("hm", YES),)))[0], (YES, LOST))
        self.assertEqual(compiled(one_field((("hm", YES), ("ha", YES))))[0], (YES, LOST))

    def test_15_acts_of_one_text(self):
        self.assertEqual(compiled(one_field((("hm", MON), ("hm", TUE))))[0], (MON, TUE, LOST))

    def test_15_all_the_phrases(self):
        self.assertEqual(compiled(small())[0], plain_alphabet(SMALL_PHRASES))
        self.assertEqual(len(compiled(small())[0]), 17)


class TestStates(unittest.TestCase):

    def test_16_a_small_machine(self):
        machine = compiled(one_field((("mon", MON), ("not mon", ("not", "day", "mon")))))
        self.assertEqual(machine, (
            (MON, ("not", "day", "mon"), LOST),
            (ASK, DONE_MON, AGAIN, AGAIN),
            ((1, 0, 2), (1, 0, 3), (1, 0, 2), (1, 0, 3)),
        ))

    def test_16_found_state_by_state_act_by_act(self):
        phrases = (("no", NO), ("tue", TUE), ("mon", MON))
        self.assertEqual(compiled(one_field(phrases)), (
            (NO, TUE, MON, LOST),
            (ASK, DONE_TUE, DONE_MON, AGAIN, AGAIN, AGAIN),
            ((0, 1, 2, 3), (1, 1, 2, 4), (2, 1, 2, 5), (0, 1, 2, 3), (1, 1, 2, 4), (2, 1, 2, 5)),
        ))

    def test_16_a_doubtful_value(self):
        # The word no can be heard as mon.
        phrases = (("mon", MON), ("yes", YES), ("no", NO))
        confirm = ("confirm", "day", "mon")
        self.assertEqual(compiled(one_field(phrases, (("no", "mon"),))), (
            (MON, YES, NO, LOST),
            (ASK, confirm, AGAIN, DONE_MON, AGAIN, AGAIN),
            # Told once more while it is confirmed the value is sure, then told again it is not.
            ((1, 0, 0, 2), (3, 3, 0, 4), (1, 0, 0, 2), (1, 3, 3, 5), (3, 3, 0, 4), (1, 3, 3, 5)),
        ))

    def test_16_a_text_of_two_acts_is_of_two_members(self):
        # Acts are done, not said: that no utterance is understood does no harm.
        machine = compiled(one_field((("hm", MON), ("hm", TUE))))
        self.assertEqual(machine[1][:3], (ASK, ("confirm", "day", "mon"), ("confirm", "day", "tue")))
        self.assertEqual(machine[2][0], (1, 2, 3))
        self.assertEqual(machine[2][1][:2], (4, 2))
        self.assertEqual(machine[1][4], DONE_MON)

    def test_16_what_changes_nothing(self):
        phrases = (("any", ("drop", "day")), ("no", NO), ("yes", YES), ("not mon", ("not", "day", "mon")))
        self.assertEqual(compiled(one_field(phrases)), (
            (("drop", "day"), NO, YES, ("not", "day", "mon"), LOST), (ASK, AGAIN), ((0, 0, 0, 0, 1), (0, 0, 0, 0, 1)),
        ))

    def test_16_only_what_is_reached(self):
        _, prompts, rows = compiled(one_field((("hm", YES),)))
        self.assertEqual((prompts, rows), ((ASK, AGAIN), ((0, 1), (0, 1))))
        _, prompts, _ = compiled(one_field((("mon", MON),)))
        self.assertEqual(prompts, (ASK, DONE_MON, AGAIN, AGAIN))

    def test_16_alike_in_facts_in_which_are_sure_and_whether_lost(self):
        machine = compiled(small(SMALL_HEARING))
        talk = small(SMALL_HEARING)
        known = {}
        for texts in (["large", "any size"], ["on monday", "no"], ["at one", "large", "any size", "any hour"], []):
            other = talk.copy()
            for text in texts:
                other.say(text)
            acts = [dict(SMALL_PHRASES)[text] for text in texts]
            state = 0
            for act in acts:
                state = machine[2][state][machine[0].index(act)]
            known[state] = True
        self.assertEqual(list(known), [0])

    def test_16_states_that_say_the_same_are_not_one(self):
        # No filling of the form has another day, so what is told of it makes no difference to what is said.
        form = Form((("day", ("mon",)), ("size", ("big", "small"))), ())
        machine = compiled(Dialogue(form, (("mon", MON),), ()))
        self.assertEqual(machine[1], (("ask", "size"), ("ask", "size"), AGAIN, AGAIN))

    def test_16_a_form_without_fillings(self):
        rules = ((("day", "mon"),), (("day", "tue"),))
        machine = compiled(one_field((("mon", MON), ("yes", YES)), rules=rules))
        clash = ("clash", ())
        self.assertEqual(machine[1], (clash, clash, AGAIN, AGAIN))
        self.assertEqual(machine[2], ((1, 0, 2), (1, 1, 3), (1, 0, 2), (1, 1, 3)))
        # While it clashes, nothing is confirmed.
        machine = compiled(one_field((("mon", MON), ("yes", YES), ("no", NO)), (("no", "mon"),), rules=rules))
        self.assertEqual(machine[1], (clash, clash, AGAIN, AGAIN))

    def test_16_a_form_of_one_filling(self):
        machine = compiled(one_field((("mon", MON),), rules=((("day", "tue"),),)))
        self.assertEqual(machine[1], (DONE_MON, DONE_MON, AGAIN, AGAIN))


class TestBeginning(unittest.TestCase):

    def test_16_from_the_middle(self):
        phrases = (("no", NO), ("tue", TUE), ("mon", MON))
        self.assertEqual(compiled(one_field(phrases, said=["mon"])), (
            (NO, TUE, MON, LOST),
            (DONE_MON, DONE_TUE, AGAIN, AGAIN),
            ((0, 1, 0, 2), (1, 1, 0, 3), (0, 1, 0, 2), (1, 1, 0, 3)),
        ))

    def test_16_from_a_value_that_is_not_sure(self):
        phrases = (("mon", MON), ("yes", YES), ("no", NO))
        machine = compiled(one_field(phrases, (("no", "mon"),), ["mon"]))
        self.assertEqual(machine[1], (("confirm", "day", "mon"), DONE_MON, ASK, AGAIN, AGAIN, AGAIN))
        self.assertEqual(machine[2][0], (1, 1, 2, 3))

    def test_16_from_where_it_is_lost(self):
        phrases = (("no", NO), ("tue", TUE), ("mon", MON))
        self.assertEqual(compiled(one_field(phrases, said=["hm"])), (
            (NO, TUE, MON, LOST),
            (AGAIN, ASK, DONE_TUE, DONE_MON, AGAIN, AGAIN),
            ((1, 2, 3, 0), (1, 2, 3, 0), (2, 2, 3, 4), (3, 2, 3, 5), (2, 2, 3, 4), (3, 2, 3, 5)),
        ))
        machine = compiled(one_field(phrases, said=["mon", "hm"]))
        self.assertEqual(machine[1], (AGAIN, DONE_MON, DONE_TUE, AGAIN))
        self.assertEqual(machine[2][0], (1, 2, 1, 0))

    def test_16_the_dialogue_does_not_change(self):
        for said in ([], ["on monday"], ["on monday", "hm"], ["large on monday"], ["little on tuesday yes", "at one"]):
            talk = small(SMALL_HEARING, said)
            before = seen(talk)
            machine = compiled(talk)
            self.assertEqual(seen(talk), before)
            self.assertEqual(machine[1][0], talk.prompt())
            self.assertEqual(compiled(talk), machine)
            self.assertEqual(compiled(talk.copy()), machine)
            self.assertEqual(talk.say("any hour"), spoken(machine, ((("drop", "hour"),),))[0])

    def test_16_as_a_plain_dialogue(self):
        kinds, sizes = {}, []
        for seed in range(150):
            chance = Random(seed)
            fields, rules, phrases, hearing = random_talk(seed)
            texts = [text for text, _ in phrases] + ["hm"]
            said = [chance.choice(texts) for _ in range(chance.choice((0, 0, 1, 2, 3)))]
            talk = Dialogue(Form(fields, rules), phrases, hearing)
            for utterance in said:
                talk.say(utterance)
            machine = compiled(talk)
            self.assertEqual(machine, plain_machine(plain_talk(fields, rules, phrases, hearing, said)), seed)
            self.assertIs(is_machine(machine), True)
            for prompt in machine[1]:
                kinds[prompt[0]] = kinds.get(prompt[0], 0) + 1
            sizes.append(len(machine[1]))
        self.assertEqual(len(kinds), 5)
        self.assertGreater(min(kinds.values()), 40)
        self.assertGreater(max(sizes), 40)

    def test_16_the_small_form(self):
        for said in ([], ["hm"], ["on tuesday large", "yes"], ["on monday little yes at two"]):
            for hearing in ((), SMALL_HEARING):
                plain = plain_machine(plain_talk(SMALL_FIELDS, SMALL_RULES, SMALL_PHRASES, hearing, said))
                self.assertEqual(compiled(small(hearing, said)), plain)


class TestManyStates(unittest.TestCase):

    def test_16_just_three_thousand(self):
        # The facts of each field, or none, and each time lost or not: 5 * 5 * 5 * 4 * 3 * 2.
        fields, phrases = free((4, 4, 4, 3, 2))
        alphabet, prompts, rows = compiled(Dialogue(Form(fields, ()), phrases, ()))
        self.assertEqual((len(alphabet), len(prompts), len(rows)), (len(phrases) + 1, 3000, 3000))
        self.assertEqual(sorted({after for row in rows for after in row}), list(range(3000)))
        self.assertEqual(sum(prompt[0] == "done" for prompt in prompts), 4 * 4 * 4 * 3 * 2)
        self.assertEqual(sum(prompt == AGAIN for prompt in prompts), 1500)

    def test_16_more_than_three_thousand(self):
        # 6 * 6 * 6 * 6 * 2 times 2, and more; but for the doubtful value the last one has just 3,000.
        doubt = (word_of(500), word_of(0))
        for numbers, hearing in (((5, 5, 5, 5, 1), ()), ((5, 5, 5, 4, 2, 1), ()), ((4, 4, 4, 3, 2), (doubt,))):
            fields, phrases = free(numbers)
            talk = Dialogue(Form(fields, ()), phrases + ((word_of(500), YES),), hearing)
            before = seen(talk)
            with self.assertRaises(TooMany) as caught:
                compiled(talk)
            self.assertEqual(caught.exception.word, "states")
            self.assertEqual(seen(talk), before)

    def test_16_just_as_many_as_there_may_be(self):
        machine = compiled(small(SMALL_HEARING))
        many = len(machine[1])
        with patch("sayfill.numbering.MOST_STATES", many):
            self.assertEqual(compiled(small(SMALL_HEARING)), machine)
        with patch("sayfill.numbering.MOST_STATES", many - 1), self.assertRaises(TooMany):
            compiled(small(SMALL_HEARING))

    def test_16_many_acts_and_clashes_in_good_time(self):
        chance = Random(4)
        fields, phrases = free((4, 4, 4, 3, 2))
        rules = [random_facts(chance, fields, 3, 4) for _ in range(20)]
        others = [act for act in all_acts(fields) if act[0] in ("not", "yes", "no")]
        phrases = phrases + tuple((word_of(100 + at), act) for at, act in enumerate(others))
        self.assertEqual(len(phrases), 41)
        phrases = phrases + tuple((word_of(200 + at), act) for at, (_, act) in enumerate(phrases[:19]))
        alphabet, prompts, rows = compiled(Dialogue(Form(fields, rules), phrases, ()))
        self.assertEqual((len(alphabet), len(prompts), len(rows)), (42, 3000, 3000))
        self.assertGreater(sum(prompt[0] == "clash" for prompt in prompts), 200)

    def test_16_a_form_of_three_thousand_states_without_fillings(self):
        fields, phrases = free((4, 4, 4, 3, 2))
        talk = Dialogue(Form(fields, ((("e", "v"),), (("e", "w"),))), phrases, ())
        _, prompts, _ = compiled(talk)
        self.assertEqual(len(prompts), 3000)
        self.assertEqual(set(prompts), {AGAIN, ("clash", ())})


class TestBasics(unittest.TestCase):

    def test_1_only_tuples(self):
        talk = Dialogue(Form(listed(SMALL_FIELDS), listed(SMALL_RULES)), listed(SMALL_PHRASES), listed(SMALL_HEARING))
        machine = compiled(talk)
        self.assertEqual(machine, compiled(small(SMALL_HEARING)))
        self.assertIs(type(machine), tuple)
        self.assertEqual([type(part) for part in machine], [tuple] * 3)
        self.assertEqual({type(row) for part in machine for row in part}, {tuple})
        self.assertEqual({type(number) for row in machine[2] for number in row}, {int})

    def test_1_by_name(self):
        self.assertEqual(compiled(dialogue=small()), compiled(small()))

    def test_1_equal_calls_give_equal_results(self):
        talk = small(SMALL_HEARING, ["on monday"])
        machine = copy.deepcopy(compiled(talk))
        self.assertEqual(compiled(talk), machine)
        self.assertEqual(compiled(small(SMALL_HEARING, ["on monday"])), machine)

    def test_1_no_deep_nesting_of_calls(self):
        fields, phrases = free((4, 4, 4, 3, 2))
        with shallow_calls():
            machine = compiled(Dialogue(Form(fields, ()), phrases, ()))
        self.assertEqual(len(machine[1]), 3000)

    def test_1_wide_forms_raise_no_other_error(self):
        phrases = tuple((word_of(at), act) for at, act in enumerate(all_acts(WIDE_FIELDS)))
        self.assertRaises(TooMany, compiled, Dialogue(Form(WIDE_FIELDS, ()), phrases, ()))

    def test_1_defined_in_its_file(self):
        self.assertEqual(compiled.__module__, "sayfill.compiling")


if __name__ == "__main__":
    unittest.main()
