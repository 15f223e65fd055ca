"""Promises [1], [17] and [18]: sayfill/machines.py."""

import copy
import unittest
from itertools import product
from random import Random

from sayfill.compiling import compiled
from sayfill.dialogues import Dialogue
from sayfill.forms import Form
from sayfill.machines import dead_ends, is_machine, least, parting, spoken, walked
from sayfill.phrases import meanings

from helpers import ODD_THINGS, SMALL_FIELDS, SMALL_HEARING, SMALL_PHRASES, SMALL_RULES, ErrorCase, listed, nested
from helpers import shallow_calls
from plain_machines import (
    LOST, chain, plain_dead_ends, plain_least, plain_parting, plain_walk, random_machine, random_talk,
    winding_machine, word_of,
)

YES, NO = ("yes",), ("no",)
AGAIN, DONE, CLASH, ASK = ("again",), ("done", (("a", "b"),)), ("clash", ()), ("ask", "a")

# Two acts and being lost; of its five states nothing reaches the last one.
FIVE = (
    (YES, ("set", "a", "b"), LOST),
    (ASK, ("confirm", "a", "b"), DONE, AGAIN, ("clash", (("a", "b"), ("c", "d")))),
    ((0, 1, 3), (2, 1, 3), (2, 2, 2), (0, 1, 3), (4, 4, 0)),
)


def one_state(prompt=AGAIN, alphabet=(LOST,)):
    """A machine of one state that says this."""
    return (alphabet, (prompt,), ((0,) * len(alphabet),))


def no_machines():
    """Values of all kinds that are no machines, also such as differ but little from one."""
    things = list(ODD_THINGS) + [(), [], ((), (), ()), [[], [], []], ("a", "b", "c"), "abc", (LOST, (AGAIN,), ((0,),))]
    things += [FIVE[:2], FIVE + ((),), FIVE + FIVE, (FIVE,), FIVE[::-1], FIVE[:2] + ((),)]
    for odd in ODD_THINGS + ((), []):
        things += [(odd, FIVE[1], FIVE[2]), (FIVE[0], odd, FIVE[2]), (FIVE[0], FIVE[1], odd)]
        things.append((FIVE[0][:2] + (odd,), FIVE[1], FIVE[2]))
        if odd not in (["Day", "mon"], ["", ""]):
            things.append((FIVE[0][:1] + (odd, LOST), FIVE[1], FIVE[2]))
        things += [(FIVE[0], FIVE[1][:4] + (odd,), FIVE[2]), (FIVE[0], FIVE[1], FIVE[2][:4] + (odd,))]
    return things


def small_machine(hearing=()):
    """The machine of the small form."""
    return compiled(Dialogue(Form(SMALL_FIELDS, SMALL_RULES), SMALL_PHRASES, hearing))


class TestIsMachine(ErrorCase):

    def assert_machine(self, machine):
        self.assertIs(is_machine(machine), True, repr(machine)[:200])
        self.assertIs(is_machine(listed(machine)), True, repr(machine)[:200])

    def assert_none(self, machine):
        self.assertIs(is_machine(machine), False, repr(machine)[:200])
        self.assertIs(is_machine(listed(machine)), False, repr(machine)[:200])

    def test_17_machines(self):
        self.assert_machine(FIVE)
        self.assert_machine(one_state())
        self.assert_machine(small_machine())
        self.assert_machine(small_machine(SMALL_HEARING))
        for seed in range(40):
            self.assert_machine(random_machine(seed))

    def test_17_each_of_the_five_prompts(self):
        for prompt in (AGAIN, CLASH, DONE, ASK, ("confirm", "a", "b"), ("clash", (("a", "b"),)), ("done", ()),
                       ("clash", (("a", "b"),) * 9), ("done", (("a", "b"), ("a", "c")))):
            self.assert_machine(one_state(prompt))

    def test_17_any_strings_as_fields_and_values(self):
        for text in ("", " ", "A b", "x" * 200000, "\n", "\u00e9", "again", "lost", "1"):
            for prompt in (("ask", text), ("confirm", text, "a"), ("confirm", "a", text), ("clash", ((text, text),)),
                           ("done", (("a", "b"), (text, "")))):
                self.assert_machine(one_state(prompt))

    def test_17_what_are_no_prompts(self):
        for prompt in (
                (), ("again", ""), ("again", "a"), ("again", ()), ("ask",), ("ask", "a", "b"), ("ask", ()),
                ("confirm",), ("confirm", "a"), ("confirm", "a", "b", "c"), ("confirm", ("a", "b")), ("clash",),
                ("clash", (), ()), ("clash", "a"), ("clash", "ab"), ("clash", ""), ("clash", ("a", "b")),
                ("clash", ("ab",)), ("clash", (("a",),)), ("clash", (("a", "b", "c"),)), ("clash", (("a", "b"), ())),
                ("clash", ((("a", "b"),),)), ("clash", "a", "b"), ("done",), ("done", "ab"), ("done", ("ab", "cd")),
                ("done", (("a", "b"),), ()), ("done", (("a", 1),)), ("done", ((None, "a"),)), ("done", ((("a",), "b"),)),
                ("clash", None), ("done", True), ("ask", 1), ("ask", None), ("ask", ("a",)), ("confirm", "a", 1),
                ("confirm", True, "b"), ("Ask", "a"), ("asks", "a"), ("", "a"), ("lost",), ("say",), ("done ", ()),
                (("again",),), (("ask", "a"),), ("a",), (1,), (None,), (True, "a"), (["again"],), "again", None, 0):
            self.assert_none(one_state(prompt))
            self.assert_none(FIVE[:1] + (FIVE[1][:4] + (prompt,),) + FIVE[2:])

    def test_17_how_many(self):
        alphabet, prompts, rows = FIVE
        for machine in ((alphabet, prompts[:4], rows), (alphabet, prompts, rows[:4]), (alphabet, prompts + (ASK,), rows),
                        (alphabet, prompts, rows + ((0, 0, 0),)), (alphabet, (), ()), (alphabet, prompts, ()),
                        ((LOST,), (), ())):
            self.assert_none(machine)
        self.assert_machine((alphabet, prompts + (ASK,), rows + ((0, 0, 0),)))

    def test_17_rows_of_another_length(self):
        for row in ((), (0,), (0, 1), (0, 1, 2, 3), (0, 1, 2, 0, 1, 2)):
            for place in range(5):
                rows = FIVE[2][:place] + (row,) + FIVE[2][place + 1:]
                self.assert_none(FIVE[:2] + (rows,))

    def test_17_what_are_no_numbers_of_states(self):
        for odd in (-1, -5, 5, 6, 10 ** 30, -10 ** 30, True, False, None, "0", "", (), (0,), [0], nested(30, 0)):
            for place in range(3):
                row = [0, 1, 2]
                row[place] = odd
                self.assert_none(FIVE[:2] + (FIVE[2][:4] + (tuple(row),),))
                self.assert_none(FIVE[:2] + ((tuple(row),) + FIVE[2][1:],))
        for good in range(5):
            self.assert_machine(FIVE[:2] + (FIVE[2][:4] + ((0, good, 1),),))
        self.assert_none(one_state()[:2] + (((False,),),))
        self.assert_none(one_state()[:2] + (((1,),),))

    def test_17_how_many_states(self):
        self.assert_machine(one_state())
        self.assert_machine(chain(3000))
        self.assert_none(chain(3001))
        self.assert_none(chain(4000))

    def test_17_the_alphabet(self):
        for others in ((), (YES,), (("a", "b", "c"),), (("",),), (("x", ""),), (("lost", "lost"),), (("Lost",),),
                       (("a",), ("a", "a"), ("a", "a", "a")), (("ask", "a"), ("hm",), ("set", "set")),
                       tuple((word_of(at),) for at in range(600))):
            self.assert_machine(one_state(alphabet=others + (LOST,)))

    def test_17_what_is_no_alphabet(self):
        for alphabet in ((), (YES,), (LOST, YES), (LOST, YES, LOST), (LOST, LOST), (YES, YES, LOST), (YES, NO, YES, LOST),
                         ((), LOST), (("a", "b", "c", "d"), LOST), (("set", "a", "b", ""), LOST), ("yes", LOST),
                         ("lost",), "lost", (("Lost",),), (("lost", ""),), (("lost", "lost"),), ((1,), LOST),
                         ((None,), LOST), (("a", True), LOST), ((("a",),), LOST), (((),), LOST), (YES, ("lost ",)),
                         ((LOST,),), (None,), (YES, None), (YES, ())):
            self.assert_none(one_state(alphabet=alphabet))

    def test_17_a_member_twice_as_a_list(self):
        self.assertIs(is_machine(((YES, ["yes"], LOST), (AGAIN,), ((0, 0, 0),))), False)
        self.assertIs(is_machine(((["lost"], LOST), (AGAIN,), ((0, 0),))), False)
        self.assertIs(is_machine([[["yes"], LOST], (["again"],), [(0, 0)]]), True)

    def test_17_states_that_nothing_reaches(self):
        self.assert_machine(((LOST,), (AGAIN,) * 3, ((0,), (0,), (1,))))
        self.assert_machine(((LOST,), (AGAIN,) * 3, ((0,), (2,), (1,))))

    def test_17_any_other_value(self):
        for thing in no_machines():
            self.assertIs(is_machine(thing), False, repr(thing)[:200])
        for depth in (1, 2, 3, 39):
            self.assertIs(is_machine(nested(depth, FIVE)), False)

    def test_17_no_machine_where_one_is_expected(self):
        for thing in no_machines() + [chain(3001)]:
            self.assert_bad(0, walked, thing, ())
            self.assert_bad(0, spoken, thing, ())
            self.assert_bad(0, least, thing)
            self.assert_bad(0, dead_ends, thing)
            self.assert_bad(0, parting, thing, FIVE)
            self.assert_bad(1, parting, FIVE, thing)


class TestWalked(ErrorCase):

    def test_17_the_beginning_first(self):
        self.assertEqual(walked(FIVE, ()), (ASK,))
        self.assertEqual(walked(FIVE, []), (ASK,))
        self.assertEqual(walked(one_state(CLASH), ()), (CLASH,))

    def test_17_behind_each_act(self):
        set_it = ("set", "a", "b")
        self.assertEqual(walked(FIVE, (YES,)), (ASK, ASK))
        self.assertEqual(walked(FIVE, (set_it, LOST, set_it, YES)),
                         (ASK, ("confirm", "a", "b"), AGAIN, ("confirm", "a", "b"), DONE))
        self.assertEqual(walked(FIVE, (LOST, LOST, YES)), (ASK, AGAIN, AGAIN, ASK))
        self.assertEqual(walked(chain(3000), (YES,) * 2999)[-2:], (AGAIN, ("done", ())))
        self.assertEqual(walked(chain(3000), (YES,) * 2000 + (LOST,) + (YES,) * 2999)[-1], ("done", ()))

    def test_17_acts_and_machines_as_lists(self):
        acts = (("set", "a", "b"), LOST, YES)
        told = walked(FIVE, acts)
        self.assertEqual(walked(listed(FIVE), listed(acts)), told)
        self.assertEqual(walked(FIVE, (["set", "a", "b"], LOST, ["yes"])), told)
        self.assertIs(type(walked(listed(FIVE), [])), tuple)
        five = listed(FIVE)
        five[0] = [YES, ["drop", "a"], LOST]
        self.assertEqual(walked(five, [["drop", "a"], ["yes"]])[-1], DONE)
        last = listed(one_state(("done", (("a", "b"), ("c", "d")))))
        self.assertEqual(walked(last, ()), (("done", (("a", "b"), ("c", "d"))),))

    def test_17_what_is_no_sequence_of_acts(self):
        things = list(ODD_THINGS) + ["yes", YES, ["yes"], LOST, (YES, "yes"), (YES, ["yes", "yes"]), (NO,)]
        things += [(("yes", ""),), (((YES,),),), ((("yes",), ("no",)),), (("set", "a"),), (("set", "a", "c"),), (("Yes",),)]
        things += [(YES, odd) for odd in ODD_THINGS + ((), [])] + [((odd,),) for odd in ODD_THINGS + ((), [])]
        for thing in things:
            self.assert_bad(1, walked, FIVE, thing)

    def test_17_the_first_wrong_argument(self):
        self.assert_bad(0, walked, None, None)
        self.assert_bad(0, spoken, None, None)
        self.assert_bad(1, walked, one_state(), (YES,))


class TestSpoken(ErrorCase):

    def test_17_the_prompts_behind_each_reading(self):
        set_it = ("set", "a", "b")
        self.assertEqual(spoken(FIVE, ((YES,),)), (ASK,))
        self.assertEqual(spoken(FIVE, ((set_it, YES),)), (DONE,))
        self.assertEqual(spoken(FIVE, ((set_it,), None, (set_it,), (set_it, YES), (YES, YES), None)),
                         (("confirm", "a", "b"), AGAIN, ("confirm", "a", "b"), DONE, DONE, DONE))

    def test_17_not_understood(self):
        self.assertEqual(spoken(FIVE, (None,)), (AGAIN,))
        self.assertEqual(spoken(FIVE, [None, None, [["yes"]]]), (AGAIN, AGAIN, ASK))

    def test_17_the_beginning_is_not_told(self):
        self.assertEqual(spoken(FIVE, ()), ())
        self.assertEqual(spoken(FIVE, []), ())

    def test_17_lists(self):
        readings = ((("set", "a", "b"), YES), None, (YES,))
        self.assertEqual(spoken(listed(FIVE), listed(readings)), spoken(FIVE, readings))

    def test_17_what_are_no_readings(self):
        things = [odd for odd in ODD_THINGS if odd not in ([None], (None,), [None, None])]
        things += ["yes", YES, (YES,), ((),), [[]], (None, ()), ((YES,), ()), ((LOST,),), ((YES, LOST),), ((LOST, YES),)]
        things += [((NO,),), ((YES, NO),), (("yes",),), (((YES,),),), ("lost",), (LOST,), (["lost"],), (None, None, "")]
        things += [((YES,), odd) for odd in ODD_THINGS + ((), []) if odd is not None]
        things += [((YES, odd),) for odd in ODD_THINGS + ((), [])] + [(((odd,),),) for odd in ODD_THINGS + ((), [])]
        for thing in things:
            self.assert_bad(1, spoken, FIVE, thing)
        self.assert_bad(1, spoken, one_state(), ((LOST,),))
        self.assert_bad(1, spoken, one_state(), ((YES,),))

    def test_17_what_a_dialogue_says(self):
        kinds = {}
        for seed in range(120):
            chance = Random(seed)
            fields, rules, phrases, hearing = random_talk(seed)
            phrases = phrases + ((phrases[0][0] + " " + phrases[1][0], phrases[2 % len(phrases)][1]),)
            form = Form(fields, rules)
            talk = Dialogue(form, phrases, hearing)
            texts = [text for text, _ in phrases] + ["hm"]
            for _ in range(chance.choice((0, 1, 3))):
                talk.say(chance.choice(texts))
            machine = compiled(talk)
            utterances = [" ".join(chance.choice(texts) for _ in range(chance.choice((0, 1, 1, 2, 3))))
                          for _ in range(12)]
            all_readings = [meanings(form, phrases, utterance) for utterance in utterances]
            readings = [told[0] if len(told) == 1 and told[0] else None for told in all_readings]
            prompts = spoken(machine, readings)
            self.assertEqual(prompts, tuple(talk.say(utterance) for utterance in utterances), seed)
            for prompt in prompts:
                kinds[prompt[0]] = kinds.get(prompt[0], 0) + 1
        self.assertGreater(min(kinds.values()), 50, kinds)
        self.assertEqual(len(kinds), 5)


class TestLeast(ErrorCase):

    def test_18_states_that_are_alike(self):
        machine = ((YES, LOST), (ASK, AGAIN, ASK, AGAIN), ((2, 1), (0, 3), (0, 3), (2, 1)))
        self.assertEqual(least(machine), ((YES, LOST), (ASK, AGAIN), ((0, 1), (0, 1))))

    def test_18_states_that_say_the_same_and_part_later(self):
        machine = ((YES, LOST), (ASK, ASK, ASK, DONE), ((1, 0), (2, 0), (3, 0), (3, 3)))
        self.assertEqual(least(machine), machine)
        machine = ((YES, LOST), (ASK, ASK, ASK, DONE), ((1, 0), (2, 0), (2, 2), (3, 3)))
        self.assertEqual(least(machine), ((YES, LOST), (ASK,), ((0, 0),)))

    def test_18_states_that_nothing_reaches(self):
        self.assertEqual(least(FIVE), (FIVE[0], (ASK, ("confirm", "a", "b"), AGAIN, DONE),
                                       ((0, 1, 2), (3, 1, 2), (0, 1, 2), (3, 3, 3))))
        machine = ((LOST,), (AGAIN, ASK, DONE), ((0,), (2,), (1,)))
        self.assertEqual(least(machine), one_state())

    def test_18_numbered_as_they_are_found(self):
        machine = ((YES, NO, LOST), (ASK, DONE, CLASH, AGAIN), ((3, 2, 1), (1, 1, 1), (0, 1, 2), (3, 3, 3)))
        self.assertEqual(least(machine), (
            (YES, NO, LOST), (ASK, AGAIN, CLASH, DONE), ((1, 2, 3), (1, 1, 1), (0, 3, 2), (3, 3, 3))))

    def test_18_one_that_is_least_already(self):
        for machine in (one_state(), chain(50), least(small_machine()), least(small_machine(SMALL_HEARING))):
            self.assertEqual(least(machine), machine)
            self.assertEqual(least(listed(machine)), machine)

    def test_18_the_prompts_as_lists_and_tuples_are_one(self):
        machine = ((YES, LOST), (("ask", "a"), ["ask", "a"]), ((1, 0), (0, 1)))
        self.assertEqual(least(machine), ((YES, LOST), (ASK,), ((0, 0),)))
        machine = ((LOST,), (("done", (("a", "b"),)), ["done", [["a", "b"]]]), ((1,), (0,)))
        self.assertEqual(least(machine), one_state(DONE))

    def test_18_prompts_that_differ_but_little(self):
        prompts = (("ask", "a"), ("ask", "b"), ("confirm", "a", "b"), ("confirm", "b", "a"), CLASH, ("done", ()),
                   ("done", (("a", "b"),)), ("done", (("a", "b"), ("a", "b"))), AGAIN, ("done", (("b", "a"),)))
        rows = tuple((min(at + 1, 9),) for at in range(10))
        machine = ((LOST,), prompts, rows)
        self.assertEqual(least(machine), machine)

    def test_18_as_found_plainly(self):
        shrunk = 0
        for seed in range(600):
            machine = random_machine(seed)
            self.assertEqual(least(machine), plain_least(machine), machine)
            shrunk += 1 < len(least(machine)[1]) < len(machine[1])
        self.assertGreater(shrunk, 100)
        for seed in range(60):
            machine = random_machine(seed, 60, 2)
            self.assertEqual(least(machine), plain_least(machine))
        for seed in range(3000):
            machine = winding_machine(seed)
            self.assertEqual(least(machine), plain_least(machine))

    def test_18_classes_that_are_parted_while_they_wait(self):
        machine = ((YES, LOST), (DONE, AGAIN, DONE) + (AGAIN,) * 6,
                   ((3, 1), (2, 0), (3, 1), (0, 3), (7, 3), (6, 6), (6, 7), (8, 8), (0, 7)))
        self.assertEqual(least(machine), plain_least(machine))

    def test_18_of_compiled_dialogues(self):
        for seed in range(60):
            fields, rules, phrases, hearing = random_talk(seed)
            machine = compiled(Dialogue(Form(fields, rules), phrases, hearing))
            self.assertEqual(least(machine), plain_least(machine))

    def test_18_says_the_same(self):
        for seed in range(80):
            machine = random_machine(seed, 7, 2)
            small = least(machine)
            for length in range(6):
                for acts in product(machine[0], repeat=length):
                    self.assertEqual(walked(small, acts), walked(machine, acts))

    def test_18_many_states_in_good_time(self):
        for many in (2999, 3000):
            self.assertEqual(least(chain(many)), chain(many))
        # All but the last one are alike in pairs.
        alphabet, prompts, rows = chain(1500)
        double = tuple((2 * state + 1, lost) for state, lost in rows for _ in range(2))
        twice = (alphabet, tuple(prompt for prompt in prompts for _ in range(2)), double)
        self.assertEqual(least(twice), chain(1500))

    def test_18_many_states_and_acts_in_good_time(self):
        acts = tuple((word_of(at),) for at in range(60)) + (LOST,)
        ring = tuple(tuple((state + 1) % 3000 if at == 30 else state for at in range(61)) for state in range(3000))
        machine = (acts, (DONE,) + (AGAIN,) * 2999, ring)
        self.assertEqual(least(machine), machine)
        alike = (acts, (AGAIN,) * 3000, ring)
        self.assertEqual(least(alike), one_state(AGAIN, acts))
        self.assertIsNone(parting(alike, one_state(AGAIN, acts)))
        self.assertEqual(parting(machine, alike), ())
        self.assertEqual(dead_ends(machine), ())
        self.assertEqual(dead_ends(alike), tuple(range(3000)))
        other = (acts, (DONE,) + (AGAIN,) * 2998 + (DONE,), ring)
        self.assertEqual(parting(machine, other), (acts[30],) * 2999)


class TestParting(ErrorCase):

    def test_18_two_that_say_the_same(self):
        self.assertIsNone(parting(FIVE, FIVE))
        self.assertIsNone(parting(FIVE, least(FIVE)))
        self.assertIsNone(parting(least(FIVE), FIVE))
        self.assertIsNone(parting(one_state(), ((LOST,), (AGAIN, AGAIN, ASK), ((1,), (0,), (2,)))))
        self.assertIsNone(parting(one_state(DONE), listed(one_state(DONE))))

    def test_18_two_that_part_at_the_beginning(self):
        self.assertEqual(parting(one_state(ASK), one_state()), ())
        self.assertEqual(parting(one_state(("ask", "a")), one_state(("ask", "b"))), ())
        self.assertEqual(parting(chain(5), (chain(5)[0], (ASK,) + chain(5)[1][1:], chain(5)[2])), ())

    def test_18_two_that_part_late(self):
        self.assertEqual(parting(chain(9), chain(10)), (YES,) * 8)
        self.assertEqual(parting(chain(10), chain(9)), (YES,) * 8)
        self.assertEqual(parting(chain(2999), chain(3000)), (YES,) * 2998)
        self.assertEqual(parting(chain(3000), chain(3000, CLASH)), (YES,) * 2999)
        self.assertEqual(parting(chain(9), one_state(AGAIN, (YES, LOST))), (YES,) * 8)

    def test_18_the_shortest_row(self):
        # By `yes` they part behind three acts, by `no` behind two.
        one = ((YES, NO, LOST), (ASK,) * 5 + (DONE,), ((1, 3, 0), (2, 0, 0), (5, 0, 0), (0, 5, 0), (0, 0, 0), (5, 5, 5)))
        other = one_state(ASK, (YES, NO, LOST))
        self.assertEqual(parting(one, other), (NO, NO))
        self.assertEqual(parting(other, one), (NO, NO))

    def test_18_of_the_shortest_the_first_by_the_places(self):
        rows = ((1, 2, 0), (0, 3, 3), (3, 3, 3), (3, 3, 3))
        for alphabet in ((YES, NO, LOST), (NO, YES, LOST)):
            one = (alphabet, (ASK,) * 3 + (DONE,), rows)
            self.assertEqual(parting(one, one_state(ASK, alphabet)), (alphabet[0], alphabet[1]))
        one = ((YES, NO, LOST), (ASK,) * 3 + (DONE,), ((0, 2, 1), (3, 3, 3), (0, 0, 3), (3, 3, 3)))
        self.assertEqual(parting(one, one_state(ASK, (YES, NO, LOST))), (NO, LOST))

    def test_18_as_found_plainly(self):
        found = {}
        for seed in range(900):
            one, two = random_machine(seed), random_machine(seed + 5000)
            two = (one[0], two[1], tuple((row * 4)[:len(one[0])] for row in two[2]))
            row = parting(one, two)
            self.assertEqual(row, plain_parting(one, two), (one, two))
            self.assertEqual(parting(two, one), row)
            if row is not None:
                self.assertNotEqual(one[1][plain_walk(one, row)], two[1][plain_walk(two, row)])
                self.assertNotEqual(walked(one, row)[-1], walked(two, row)[-1])
                self.assertEqual(walked(one, row)[:-1], walked(two, row)[:-1])
            self.assertEqual(row is None, least(one) == least(two))
            many = -1 if row is None else len(row)
            found[many] = found.get(many, 0) + 1
        self.assertGreater(min(found.get(many, 0) for many in (-1, 0, 1)), 20, found)

    def test_18_of_machines_that_differ_in_one_place(self):
        found = {}
        for seed in range(600):
            chance = Random(seed)
            one = random_machine(seed, 12, 2)
            alphabet, prompts, rows = one
            state, act = chance.randrange(len(rows)), chance.randrange(len(alphabet))
            row = list(rows[state])
            row[act] = chance.randrange(len(rows))
            other = (alphabet, prompts, rows[:state] + (tuple(row),) + rows[state + 1:])
            told = parting(one, other)
            self.assertEqual(told, plain_parting(one, other), (one, other))
            self.assertEqual(told is None, least(one) == least(other))
            many = -1 if told is None else len(told)
            found[many] = found.get(many, 0) + 1
        self.assertGreater(min(found.get(many, 0) for many in (-1, 1, 2, 3)), 20, found)

    def test_18_of_dialogues(self):
        parted = 0
        for seed in range(40):
            fields, rules, phrases, hearing = random_talk(seed)
            one = compiled(Dialogue(Form(fields, rules), phrases, hearing))
            other = compiled(Dialogue(Form(fields, rules[1:]), phrases, hearing))
            third = compiled(Dialogue(Form(fields, rules), phrases, ()))
            for machine in (other, third):
                told = parting(one, machine)
                self.assertEqual(told, plain_parting(one, machine))
                self.assertEqual(told is None, least(one) == least(machine))
                parted += told is not None
        self.assertGreater(parted, 10)

    def test_18_what_makes_no_difference_to_what_is_said(self):
        # That a field of one value is told, or not.
        form = Form((("day", ("mon",)), ("size", ("big", "small"))), ())
        phrases = (("mon", ("set", "day", "mon")), ("big", ("set", "size", "big")))
        machine = compiled(Dialogue(form, phrases, ()))
        self.assertEqual((len(machine[1]), len(least(machine)[1])), (8, 4))

    def test_18_the_order_of_errors(self):
        self.assert_bad(0, parting, None, None)
        self.assert_bad(0, parting, None, FIVE)
        self.assert_bad(1, parting, FIVE, None)

    def test_18_another_alphabet(self):
        self.assert_bad(1, parting, FIVE, one_state())
        self.assert_bad(1, parting, one_state(), FIVE)
        self.assert_bad(1, parting, one_state(AGAIN, (YES, NO, LOST)), one_state(AGAIN, (NO, YES, LOST)))
        self.assert_bad(1, parting, one_state(ASK, (YES, LOST)), one_state(AGAIN, (NO, LOST)))
        self.assertIsNone(parting(one_state(AGAIN, (["yes"], LOST)), one_state(AGAIN, [("yes",), ["lost"]])))


class TestDeadEnds(ErrorCase):

    def test_18_none(self):
        self.assertEqual(dead_ends(one_state(DONE)), ())
        self.assertEqual(dead_ends(one_state(("done", ()))), ())
        self.assertEqual(dead_ends(FIVE), ())
        self.assertEqual(dead_ends(chain(3000)), ())

    def test_18_some(self):
        machine = ((YES, LOST), (ASK, ASK, DONE, AGAIN, ASK), ((2, 1), (1, 1), (3, 2), (3, 1), (4, 0)))
        self.assertEqual(dead_ends(machine), (1, 3))

    def test_18_all(self):
        self.assertEqual(dead_ends(one_state()), (0,))
        self.assertEqual(dead_ends(chain(3000, CLASH)), tuple(range(3000)))

    def test_18_a_state_that_is_done_is_none(self):
        machine = ((LOST,), (AGAIN, DONE, CLASH), ((0,), (2,), (0,)))
        self.assertEqual(dead_ends(machine), (0, 2))

    def test_18_of_states_that_nothing_reaches(self):
        machine = ((LOST,), (DONE, AGAIN, ASK, DONE), ((0,), (1,), (0,), (1,)))
        self.assertEqual(dead_ends(machine), (1,))

    def test_18_as_found_plainly(self):
        found = {}
        for seed in range(500):
            machine = random_machine(seed)
            dead = dead_ends(machine)
            self.assertEqual(dead, plain_dead_ends(machine), machine)
            self.assertEqual(dead_ends(listed(machine)), dead)
            kind = "none" if not dead else "all" if len(dead) == len(machine[1]) else "some"
            found[kind] = found.get(kind, 0) + 1
        self.assertGreater(min(found.values()), 50)
        self.assertEqual(len(found), 3)

    def test_18_of_a_dialogue(self):
        # What is dropped nowhere and can be told only once leaves no way to an end.
        form = Form((("day", ("mon", "tue")), ("size", ("big", "small"))), ((("day", "mon"), ("size", "big")),))
        mon, tue, big = ("set", "day", "mon"), ("set", "day", "tue"), ("set", "size", "big")
        machine = compiled(Dialogue(form, (("mon", mon), ("big", big)), ()))
        dead = dead_ends(machine)
        self.assertEqual([machine[1][state] for state in dead], [("clash", (mon[1:], big[1:])), AGAIN])
        self.assertEqual(dead_ends(compiled(Dialogue(form, (("mon", mon), ("big", big), ("tue", tue)), ()))), ())


class TestBasics(ErrorCase):

    def test_1_by_position_and_by_name(self):
        self.assertIs(is_machine(machine=FIVE), True)
        self.assertEqual(walked(acts=(YES,), machine=FIVE), walked(FIVE, (YES,)))
        self.assertEqual(spoken(readings=(None,), machine=FIVE), spoken(FIVE, (None,)))
        self.assertEqual(least(machine=FIVE), least(FIVE))
        self.assertEqual(parting(other=chain(3), one=chain(4)), parting(chain(4), chain(3)))
        self.assertEqual(dead_ends(machine=FIVE), dead_ends(FIVE))

    def test_1_arguments_stay_as_they_were(self):
        five, acts, readings = listed(FIVE), [["yes"], ["lost"]], [None, [["yes"]]]
        kept = copy.deepcopy((five, acts, readings))
        told = (is_machine(five), walked(five, acts), spoken(five, readings), least(five), dead_ends(five),
                parting(five, five), parting(five, listed(least(FIVE))))
        self.assertEqual((five, acts, readings), kept)
        self.assertEqual(told, (is_machine(five), walked(five, acts), spoken(five, readings), least(five),
                                dead_ends(five), parting(five, five), parting(FIVE, least(FIVE))))

    def test_1_only_tuples(self):
        five = listed(FIVE)
        for told in (walked(five, [["yes"]]), spoken(five, [None]), dead_ends(listed(chain(3, CLASH))),
                     parting(listed(chain(3)), listed(chain(4)))):
            self.assertIs(type(told), tuple)
            self.assertNotIn(list, [type(part) for part in told])
        self.assertEqual(repr(least(listed(chain(4)))), repr(chain(4)))
        self.assertEqual(repr(walked(listed(FIVE), [["set", "a", "b"], ["yes"]])), repr((ASK, FIVE[1][1], DONE)))
        self.assertEqual(repr(least(listed(one_state(DONE)))), repr(one_state(DONE)))

    def test_1_no_deep_nesting_of_calls(self):
        with shallow_calls():
            self.assertEqual(least(chain(3000)), chain(3000))
            self.assertEqual(len(parting(chain(3000), chain(2999))), 2998)
            self.assertEqual(dead_ends(chain(3000)), ())
            self.assertIs(is_machine(nested(39, None)), False)
            self.assertEqual(len(walked(chain(3000), (YES,) * 6000)), 6001)
            self.assertEqual(spoken(chain(3000), ((YES,) * 6000,)), (("done", ()),))

    def test_1_defined_in_their_file(self):
        for function in (is_machine, walked, spoken, least, parting, dead_ends):
            self.assertEqual(function.__module__, "sayfill.machines")


if __name__ == "__main__":
    unittest.main()
