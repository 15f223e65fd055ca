"""Promises [1], [26] and [27]: sayfill/logs.py."""

import copy
import unittest
from random import Random

from sayfill.dialogues import Dialogue
from sayfill.errors import BadLog
from sayfill.forms import Form
from sayfill.logs import log_holds, log_of

from helpers import (
    EMPTY_ROWS, ODD_THINGS, SMALL_FIELDS, SMALL_HEARING, SMALL_PHRASES, SMALL_RULES, WIDE_FIELDS, ErrorCase, PlainTalk,
    all_acts, listed, nested, random_facts, shallow_calls,
)
from plain_machines import random_talk, word_of

NO = ("no",)


def small():
    """A form of three fields; seven of the twelve ways to fill them break no rule."""
    return Form(SMALL_FIELDS, SMALL_RULES)


def barren():
    """A form without fillings, and phrases."""
    return Form((("a", ("b",)),), ((("a", "b"),),)), (("no", NO),)


def small_log(*utterances):
    """The log of a dialogue of the small form with doubtful values."""
    return log_of(small(), SMALL_PHRASES, SMALL_HEARING, utterances)


def plain_prompt(prompt):
    """A prompt as a line."""
    if prompt[0] in ("clash", "done"):
        return (prompt[0] + " " + ", ".join(f"{name} {value}" for name, value in prompt[1])).strip()
    return " ".join(prompt)


def plain_log(fields, rules, phrases, hearing, utterances):
    """The log, told line by line."""
    talk = PlainTalk(fields, rules, phrases, hearing)
    lines = [plain_prompt(talk.prompt())]
    for utterance in utterances:
        lines += [" ".join(["user"] + utterance.split()), plain_prompt(talk.say(utterance))]
    return "".join(line + "\n" for line in lines)


SAID = ("on monday", "", "  yes  ", "large", "any size at one", "hm")
LOG = ("ask day\nuser on monday\nconfirm day mon\nuser\nagain\nuser yes\nask hour\nuser large\n"
       "clash day mon, size big\nuser any size at one\ndone day mon, size small, hour one\nuser hm\nagain\n")
LINES = LOG.split("\n")[:-1]


class LogCase(ErrorCase):

    def assert_wrong(self, at, log, form=None, phrases=SMALL_PHRASES, hearing=SMALL_HEARING):
        with self.assertRaises(BadLog, msg=repr(log)[:300]) as caught:
            log_holds(form or small(), phrases, hearing, log)
        self.assertEqual(caught.exception.at, at, repr(log)[:300])
        self.assertIs(type(caught.exception.at), int)

    def holds(self, log):
        return log_holds(small(), SMALL_PHRASES, SMALL_HEARING, log)


class TestLogOf(LogCase):

    def test_26_all_the_prompts(self):
        self.assertEqual(small_log(*SAID), LOG)

    def test_26_the_beginning_alone(self):
        self.assertEqual(small_log(), "ask day\n")
        self.assertEqual(log_of(small(), SMALL_PHRASES, SMALL_HEARING, []), "ask day\n")

    def test_26_again(self):
        self.assertEqual(small_log("what"), "ask day\nuser what\nagain\n")

    def test_26_clash(self):
        self.assertEqual(small_log("at two little"), "ask day\nuser at two little\nclash size small, hour two\n")
        form = Form((("a", ("b", "c")),), ((("a", "b"),),))
        told = log_of(form, (("be", ("set", "a", "b")),), (), ("be",))
        self.assertEqual(told, "done a c\nuser be\nclash a b\n")

    def test_26_the_empty_clash(self):
        form, phrases = barren()
        self.assertEqual(log_of(form, phrases, (), ()), "clash\n")
        self.assertEqual(log_of(form, phrases, (), ("no", "", "no")),
                         "clash\nuser no\nclash\nuser\nagain\nuser no\nclash\n")

    def test_26_confirm(self):
        self.assertEqual(small_log("little", "yes"), "ask day\nuser little\nconfirm size small\nuser yes\nask day\n")

    def test_26_done(self):
        self.assertEqual(small_log("at two"), "ask day\nuser at two\ndone day tue, size big, hour two\n")

    def test_26_utterances_without_words_and_with_several_blanks(self):
        self.assertEqual(small_log("", " ", "      "), "ask day\nuser\nagain\nuser\nagain\nuser\nagain\n")
        self.assertEqual(small_log("  at    two "), small_log("at two"))
        self.assertEqual(small_log(" hm   hm"), "ask day\nuser hm hm\nagain\n")

    def test_26_words_of_any_number_of_letters(self):
        self.assertEqual(small_log("ninesigns", "on " + "x" * 5000),
                         "ask day\nuser ninesigns\nagain\nuser on " + "x" * 5000 + "\nagain\n")
        self.assertEqual(small_log("yes " * 31), "ask day\nuser" + " yes" * 31 + "\nagain\n")

    def test_26_what_are_no_utterances(self):
        things = [odd for odd in ODD_THINGS if odd not in EMPTY_ROWS and odd not in (["", ""], nested(39, "day"))]
        things += ["on monday", "yes", "", (None,), ("yes", 1), (("yes",),), [["yes"]], ("yes", ()), (True,), ("yes", None)]
        things += [("yes", word) for word in ("Yes", "yes.", "y-s", "yes1", "1", "yes\n", "\n", "\t", "on\tmonday",
                                              "yes\u00a0no", "\u00e9", "\u0430", "\u00df", "_", "{", "`", "@", "[",
                                              "yes, no", "'", "\x00", "\r", "\uff41", "a\u2028b")]
        for thing in things + [nested(39, "day")]:
            self.assert_bad(3, log_of, small(), SMALL_PHRASES, SMALL_HEARING, thing)

    def test_26_the_first_wrong_argument(self):
        for thing in list(ODD_THINGS) + [SMALL_FIELDS, (), []]:
            self.assert_bad(0, log_of, thing, None, None, None)
            self.assert_bad(0, log_of, thing, SMALL_PHRASES, SMALL_HEARING, ())
        for thing in list(ODD_THINGS) + [(), [], (("yes",),), (("Yes", ("yes",)),), (("yes", ("set", "day", "big")),)]:
            self.assert_bad(1, log_of, small(), thing, None, None)
            self.assert_bad(1, log_of, small(), thing, SMALL_HEARING, ())
        for thing in list(ODD_THINGS) + [("on", "one"), (("on",),), (("on", "One"),), ((),), [["on", "one"], None]]:
            self.assert_bad(2, log_of, small(), SMALL_PHRASES, thing, None)
            self.assert_bad(2, log_of, small(), SMALL_PHRASES, thing, ())

    def test_26_as_a_plain_dialogue(self):
        for seed in range(120):
            chance = Random(seed)
            fields, rules, phrases, hearing = random_talk(seed)
            texts = [text for text, _ in phrases] + ["hm", "", "  "]
            said = [" ".join(chance.choice(texts) for _ in range(chance.choice((0, 1, 1, 2)))) for _ in range(9)]
            told = log_of(Form(fields, rules), phrases, hearing, said)
            self.assertEqual(told, plain_log(fields, rules, phrases, hearing, said))
            self.assertEqual(log_holds(Form(fields, rules), phrases, hearing, told), 9)


class TestLogHolds(LogCase):

    def test_27_the_own_log(self):
        self.assertEqual(self.holds(LOG), 6)
        self.assertEqual(self.holds("ask day\n"), 0)
        for many in range(len(SAID) + 1):
            self.assertEqual(self.holds(small_log(*SAID[:many])), many)
        form, phrases = barren()
        self.assertEqual(log_holds(form, phrases, (), "clash\nuser\nagain\n"), 1)

    def test_27_a_prompt_that_is_changed(self):
        for at in range(0, len(LINES), 2):
            for line in ("again", "ask day", "ask size", "confirm day mon", "clash", "done", "", " ", "ask day ",
                         " ask day", "Ask day", "ask  day", "user", "user yes", "clash day mon , size big",
                         "clash day mon,size big", "clash size big, day mon", "clash day mon, size big ", "x"):
                if line != LINES[at]:
                    lines = LINES[:at] + [line] + LINES[at + 1:]
                    self.assert_wrong(at, "".join(line + "\n" for line in lines))

    def test_27_a_line_of_the_user_that_is_none(self):
        for at in range(1, len(LINES), 2):
            for line in ("", " ", "User", "user ", " user", "users", "user  yes", "user yes ", "user yes  no", "user Yes",
                         "user yes.", "user 1", "user\tyes", "yes", "ask day", "again", "useryes", "user yes\r", "user -",
                         "user \u00e9", "user y\u0430", "user yes, no", "user:", "user 'yes'", "use r", "us"):
                lines = LINES[:at] + [line] + LINES[at + 1:]
                self.assert_wrong(at, "".join(line + "\n" for line in lines))

    def test_27_words_that_are_changed(self):
        # Then it is the prompt behind it that is not what it must be.
        self.assert_wrong(2, LOG.replace("user on monday", "user on tuesday"))
        self.assert_wrong(6, LOG.replace("user yes", "user no"))
        self.assertEqual(self.holds(LOG.replace("user hm", "user what now")), 6)
        self.assertEqual(self.holds(LOG.replace("user hm", "user" + " yes" * 31)), 6)
        self.assertEqual(self.holds(LOG.replace("user hm", "user")), 6)
        self.assertEqual(self.holds(LOG.replace("user hm", "user " + "z" * 9000)), 6)

    def test_27_a_prompt_that_lacks(self):
        for many in range(0, len(LINES), 2):
            self.assert_wrong(many, "".join(line + "\n" for line in LINES[:many]))
        self.assert_wrong(2, "ask day\nuser\n")
        self.assert_wrong(2, "ask day\nuser on monday\n")

    def test_27_no_lines(self):
        self.assert_wrong(0, "")

    def test_27_a_line_too_many(self):
        for line in ("again", "", "ask day", "x", "user yes "):
            self.assert_wrong(13, LOG + line + "\n")
            self.assert_wrong(1, "ask day\n" + line + "\n")
        self.assert_wrong(14, LOG + "user yes\n")
        self.assert_wrong(14, LOG + "user yes\nagain\n")
        self.assert_wrong(13, LOG + "\n")
        self.assert_wrong(13, LOG + LOG)

    def test_27_no_line_feed_at_the_end(self):
        self.assert_wrong(12, LOG[:-1])
        self.assert_wrong(0, "ask day")
        self.assert_wrong(1, "ask day\nuser")
        self.assert_wrong(1, "ask day\nuser on monday")
        self.assert_wrong(2, "ask day\nuser on monday\nconfirm day mon")
        self.assert_wrong(1, "ask day\n ")
        self.assert_wrong(13, LOG + "user hm")

    def test_27_other_signs_part_no_lines(self):
        for sign in ("\r", "\r\n", "\x0b", "\x0c", "\x1c", "\u2028", "\x85"):
            self.assert_wrong(0, LOG.replace("\n", sign))
            self.assert_wrong(1, "ask day\nuser" + sign + "\nagain\n")

    def test_27_the_first_wrong_line(self):
        self.assert_wrong(0, "x\ny\nz")
        self.assert_wrong(1, "ask day\nuse r\nz")
        self.assert_wrong(4, LOG.replace("again", "ask day").replace("user large", "user LARGE"))

    def test_27_what_is_no_string(self):
        for thing in list(ODD_THINGS) + [(), [], LINES, (LOG,), [LOG], nested(39, LOG)]:
            self.assert_wrong(0, thing)

    def test_27_the_log_of_another_dialogue(self):
        self.assert_wrong(2, LOG, hearing=())
        self.assert_wrong(2, LOG, phrases=SMALL_PHRASES[1:])
        self.assert_wrong(0, LOG, form=Form(SMALL_FIELDS[::-1], SMALL_RULES))
        self.assert_wrong(6, LOG, form=Form(SMALL_FIELDS, SMALL_RULES[1:]))

    def test_27_the_other_arguments_ahead_of_it(self):
        for thing in (None, (), SMALL_FIELDS, "form"):
            self.assert_bad(0, log_holds, thing, None, None, None)
        for thing in (None, (), "yes", (("yes",),)):
            self.assert_bad(1, log_holds, small(), thing, None, None)
        for thing in (None, "on", (("on",),), 1):
            self.assert_bad(2, log_holds, small(), SMALL_PHRASES, thing, None)
            self.assert_bad(2, log_holds, small(), SMALL_PHRASES, thing, LOG)

    def test_27_just_the_logs_hold(self):
        changed, held = 0, 0
        for seed in range(150):
            chance = Random(seed)
            fields, rules, phrases, hearing = random_talk(seed)
            texts = [text for text, _ in phrases] + ["hm", ""]
            said = [chance.choice(texts) for _ in range(chance.randint(0, 6))]
            form = Form(fields, rules)
            lines = log_of(form, phrases, hearing, said).split("\n")[:-1]
            at = chance.randrange(len(lines))
            words = ["user", "again", "ask", "confirm", "clash", "done"] + texts + [name for name, _ in fields]
            for _ in range(8):
                parts = lines[at].split(" ")
                parts[chance.randrange(len(parts))] = chance.choice(words)
                other = "".join(line + "\n" for line in lines[:at] + [" ".join(parts)] + lines[at + 1:])
                heard = [line[5:] for line in other.split("\n")[1:-1:2]]
                is_log = plain_log(fields, rules, phrases, hearing, heard) == other and other.count("\n") % 2 == 1
                if is_log:
                    self.assertEqual(log_holds(form, phrases, hearing, other), len(heard))
                    held += 1
                else:
                    self.assertRaises(BadLog, log_holds, form, phrases, hearing, other)
                    changed += 1
        self.assertGreater(min(changed, held), 100)

    def test_27_many_utterances_in_good_time(self):
        chance = Random(3)
        phrases = tuple((word_of(at), act) for at, act in enumerate(all_acts(WIDE_FIELDS)))
        form = Form(WIDE_FIELDS, [random_facts(chance, WIDE_FIELDS, 3, 4) for _ in range(20)])
        said = [word_of(chance.randrange(len(phrases))) for _ in range(3000)]
        told = log_of(form, phrases, (), said)
        self.assertEqual(log_holds(form, phrases, (), told), 3000)
        told = "ask ape\n" + "user\nagain\n" * 15000
        self.assertEqual(log_holds(form, phrases, (), told), 15000)


class TestBasics(LogCase):

    def test_1_by_position_and_by_name(self):
        self.assertEqual(log_of(utterances=SAID, hearing=SMALL_HEARING, phrases=SMALL_PHRASES, form=small()), LOG)
        self.assertEqual(log_holds(log=LOG, hearing=SMALL_HEARING, phrases=SMALL_PHRASES, form=small()), 6)

    def test_1_lists_and_arguments_that_stay_as_they_were(self):
        form, phrases, hearing, said = small(), listed(SMALL_PHRASES), listed(SMALL_HEARING), list(SAID)
        kept = copy.deepcopy((phrases, hearing, said))
        for _ in range(2):
            self.assertEqual(log_of(form, phrases, hearing, said), LOG)
            self.assertEqual(log_holds(form, phrases, hearing, LOG), 6)
        self.assertEqual((phrases, hearing, said), kept)
        self.assertEqual(form, small())

    def test_1_what_a_dialogue_says(self):
        talk = Dialogue(small(), SMALL_PHRASES, SMALL_HEARING)
        lines = [plain_prompt(talk.prompt())] + [plain_prompt(talk.say(utterance)) for utterance in SAID]
        self.assertEqual(LINES[::2], lines)

    def test_1_no_deep_nesting_of_calls(self):
        with shallow_calls():
            told = small_log(*["hm"] * 300)
            self.assertEqual(self.holds(told), 300)

    def test_1_defined_in_their_file(self):
        for function in (log_of, log_holds):
            self.assertEqual(function.__module__, "sayfill.logs")


if __name__ == "__main__":
    unittest.main()
