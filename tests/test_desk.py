"""Promises [1], [28] and [29]: sayfill/desk.py."""

import unittest
from random import Random

from sayfill.compiling import compiled
from sayfill.desk import Desk, replayed
from sayfill.dialogues import Dialogue
from sayfill.errors import BadLine
from sayfill.forms import Form
from sayfill.logs import log_of
from sayfill.machines import least
from sayfill.phrases import first_double

from helpers import (
    ODD_THINGS, SMALL_FIELDS, SMALL_HEARING, SMALL_PHRASES, SMALL_RULES, ErrorCase, all_acts, nested, shallow_calls,
)
from plain_machines import random_talk, word_of

# The lines that tell the small form, its phrases and its hearing.
FIELD_LINES = tuple(" ".join(("field", name) + values) for name, values in SMALL_FIELDS)
RULE_LINES = tuple("rule " + " ".join(name + " " + value for name, value in rule) for rule in SMALL_RULES)
PHRASE_LINES = tuple("phrase " + " ".join(act) + " : " + text for text, act in SMALL_PHRASES)
HEAR_LINES = tuple("hear " + " ".join(pair) for pair in SMALL_HEARING)
SMALL_LINES = FIELD_LINES + RULE_LINES + PHRASE_LINES + HEAR_LINES

BAD, MANY, NOTHING = "no BadValue", "no TooMany", "no NothingThere"


def told(*lines):
    """A desk to which these lines were told."""
    desk = Desk()
    for line in lines:
        desk.tell(line)
    return desk


def begun(*lines):
    """A desk with the dialogue of the small form, to which these lines were told."""
    return told(*SMALL_LINES, "begin", *lines)


def seen(desk):
    """All that a desk tells of its dialogue."""
    return [answer(desk, line) for line in ("prompt", "facts", "states", "double")]


def answer(desk, line):
    """What the desk answers to one line; a desk that is asked so is told no more."""
    return replayed(desk.log()).tell(line)


class DeskCase(ErrorCase):

    def assert_answers(self, desk, *pairs):
        for line, expected in pairs:
            self.assertEqual(desk.tell(line), expected, line)

    def assert_no_line(self, line, desk=None):
        desk = desk or begun()
        before = desk.log()
        with self.assertRaises(BadLine, msg=repr(line)[:300]) as caught:
            desk.tell(line)
        self.assertEqual(caught.exception.at, 0)
        self.assertIs(type(caught.exception.at), int)
        self.assertEqual(desk.log(), before)


class TestTelling(DeskCase):

    def test_28_ok(self):
        desk = Desk()
        for line in SMALL_LINES:
            self.assertEqual(desk.tell(line), "ok")
        self.assertEqual(desk.tell("begin"), "ask day")

    def test_28_a_small_dialogue(self):
        self.assert_answers(
            Desk(), ("field day mon tue", "ok"), ("field size big small", "ok"), ("rule day mon size big", "ok"),
            ("phrase set day mon : on monday", "ok"), ("phrase set size big : large", "ok"), ("phrase no : no", "ok"),
            ("begin", "ask day"), ("prompt", "ask day"), ("facts", ""), ("say large", "done day tue, size big"),
            ("facts", "size big"), ("say on monday", "clash day mon, size big"), ("facts", "day mon, size big"),
            ("say what", "again"), ("prompt", "again"), ("facts", "day mon, size big"), ("states", "8"),
            ("double", "none"))

    def test_28_hearing(self):
        desk = begun()
        self.assert_answers(
            desk, ("say on monday", "confirm day mon"), ("say yes", "ask hour"), ("say little", "confirm size small"),
            ("facts", "day mon, size small"), ("say no", "ask hour"), ("facts", "day mon"))

    def test_28_the_kinds_of_acts(self):
        desk = begun()
        self.assert_answers(
            desk, ("say on tuesday yes", "ask size"), ("say not tuesday", "ask day"), ("say large at one", "done day tue, "
            "size big, hour one"), ("say any hour", "ask hour"), ("say not large", "ask day"), ("facts", ""))
        desk = told("field a b c", "phrase set a b : on", "phrase not a b : off", "phrase drop a : away",
                    "phrase yes : yes", "phrase no : no", "begin")
        self.assert_answers(desk, ("say on", "done a b"), ("say off", "ask a"), ("say on away", "ask a"), ("say yes no",
                                                                                                       "ask a"))

    def test_28_say_without_words(self):
        self.assert_answers(begun("say on monday"), ("say", "again"), ("facts", "day mon"), ("say yes", "ask hour"))

    def test_28_say_words_of_any_number_of_letters(self):
        self.assert_answers(begun(), ("say ninesigns", "again"), ("say " + "x" * 3000, "again"),
                            ("say" + " yes" * 31, "again"), ("say at two", "done day tue, size big, hour two"))

    def test_28_facts_of_none(self):
        self.assert_answers(begun(), ("facts", ""), ("say large", "ask hour"), ("say any size", "ask day"), ("facts", ""))

    def test_28_facts_of_one_and_of_several(self):
        self.assert_answers(begun("say at one"), ("facts", "hour one"))
        self.assert_answers(begun("say at one large on monday"), ("facts", "day mon, size big, hour one"))

    def test_28_the_empty_clash(self):
        desk = told("field a b", "rule a b", "phrase no : no", "begin")
        self.assert_answers(desk, ("prompt", "clash"), ("say no", "clash"), ("say", "again"))
        self.assertEqual(told("field a b", "rule a b", "phrase no : no").tell("begin"), "clash")

    def test_28_begin_tells_the_prompt(self):
        self.assertEqual(told("field a b", "phrase no : no").tell("begin"), "done a b")
        self.assertEqual(begun("say large").tell("begin"), "ask day")

    def test_28_behind_begin_nothing_begins_anew(self):
        desk = begun("say at one large")
        self.assert_answers(
            desk, ("field room in out", "ok"), ("prompt", "done day tue, size big, hour one"), ("rule day tue", "ok"),
            ("phrase set day tue : late", "ok"), ("say late", "again"), ("hear three one", "ok"),
            ("say large", "done day tue, size big, hour one"), ("begin", "ask hour"), ("facts", ""), ("say late", "clash day tue"), ("say at one", "clash day tue"),
            ("say on monday", "confirm day mon"))

    def test_28_all_counts_from_the_next_begin_on(self):
        desk = told("field a b c", "phrase set a b : on", "begin")
        self.assert_answers(desk, ("phrase no : off", "ok"), ("hear off on", "ok"), ("field d e f", "ok"),
                            ("rule a b d e", "ok"), ("say on", "done a b"), ("begin", "ask a"), ("say on", "confirm a b"),
                            ("say on", "done a b, d f"))

    def test_28_a_rule_more(self):
        desk = told("field a b c", "field d e f", "phrase set a b : on", "rule a b d e")
        self.assert_answers(desk, ("begin", "ask a"), ("say on", "done a b, d f"), ("rule d f", "ok"), ("begin", "done a c, d e"),
                            ("say on", "clash a b"))

    def test_28_states(self):
        for lines in (SMALL_LINES, FIELD_LINES + PHRASE_LINES, FIELD_LINES + RULE_LINES + PHRASE_LINES):
            hearing = SMALL_HEARING if "hear" in " ".join(lines) else ()
            rules = SMALL_RULES if RULE_LINES[0] in lines else ()
            machine = least(compiled(Dialogue(Form(SMALL_FIELDS, rules), SMALL_PHRASES, hearing)))
            self.assertEqual(told(*lines, "begin").tell("states"), str(len(machine[1])))
        self.assertEqual(told("field a b", "phrase no : no", "begin").tell("states"), "2")

    def test_28_states_are_of_the_least_machine(self):
        desk = told("field a b", "field c d e", "phrase set a b : on", "begin")
        machine = compiled(Dialogue(Form((("a", ("b",)), ("c", ("d", "e"))), ()), (("on", ("set", "a", "b")),), ()))
        self.assertEqual((len(machine[1]), desk.tell("states")), (4, "2"))

    def test_28_states_while_the_dialogue_is_in_the_middle(self):
        # Where the size can only be set, fewer states are reached from the middle.
        lines = ("field a b c", "field d e f", "phrase set a b : on", "phrase set d e : in", "phrase set d f : out",
                 "begin")
        desk = told(*lines)
        states = desk.tell("states")
        self.assert_answers(desk, ("say on", "ask d"), ("states", states), ("say in", "done a b, d e"), ("states", states),
                            ("say hm", "again"), ("states", states), ("facts", "a b, d e"), ("prompt", "again"))
        talk = Dialogue(Form((("a", ("b", "c")), ("d", ("e", "f"))), ()), (("on", ("set", "a", "b")), (
            "in", ("set", "d", "e")), ("out", ("set", "d", "f"))), ())
        self.assertEqual(states, str(len(least(compiled(talk))[1])))
        talk.say("on in")
        self.assertLess(len(least(compiled(talk))[1]), int(states))

    def test_28_states_while_more_was_told_behind_begin(self):
        desk = begun()
        states = desk.tell("states")
        for line in ("field room in out", "rule day mon", "phrase drop day : away", "hear at on"):
            self.assert_answers(desk, (line, "ok"), ("states", states))
        self.assertEqual(desk.tell("begin"), "ask size")
        self.assertNotEqual(desk.tell("states"), states)

    def test_28_too_many_states(self):
        lines = ["field " + name + " u v w x y" for name in ("a", "b", "c", "d")] + ["field e u"]
        sets = [f"phrase set {name} {value} : {name} {value}" for name in "abcd" for value in "uvwxy"]
        drops = [f"phrase drop {name} : not {name}" for name in "abcd"]
        desk = told(*lines, *sets, *drops, "begin")
        self.assert_answers(desk, ("states", "2592"), ("phrase set e u : e u", "ok"), ("states", "2592"), ("begin", "ask a"),
                            ("states", MANY), ("say a u", "ask b"), ("states", MANY), ("facts", "a u"))

    def test_28_double(self):
        desk = told("field a b c", "phrase set a b : on", "phrase no : off", "begin")
        self.assert_answers(
            desk, ("double", "none"), ("phrase yes : on off", "ok"), ("double", "twice on off"), ("prompt", "ask a"),
            ("say on off", "done a b"), ("phrase yes : off", "ok"), ("double", "twice off"),
            ("begin", "ask a"), ("double", "twice off"), ("say off", "again"))

    def test_28_double_of_phrases_ahead_of_begin(self):
        desk = told("field a b c", "phrase set a b : on", "phrase no : off", "phrase yes : on off")
        self.assert_answers(desk, ("double", NOTHING), ("begin", "ask a"), ("double", "twice on off"))

    def test_28_double_of_fields_told_behind_begin(self):
        desk = told("field a b c", "phrase set a b : on", "begin", "field d e f", "phrase set d e : on")
        self.assert_answers(desk, ("double", "twice on"), ("say on", "done a b"))


class TestLines(DeskCase):

    def test_28_what_is_no_line(self):
        for line in (
                "", " ", "hm", "Begin", "BEGIN", "begin ", " begin", "begin now", "begins", "prompt ", "prompt day", "facts ",
                "facts day", "states ", "states now", "double ", "double on", "fields a b", "says", "log", "ok", "no",
                "yes", "tell begin", "ask day", "user yes", "lost", "drop day", "set day mon", "(begin)", "begin.",
                "begin\t", "\tbegin", "#", "quit"):
            self.assert_no_line(line)
            self.assert_no_line(line, Desk())

    def test_28_several_blanks(self):
        for line in SMALL_LINES + ("say on monday", "begin", "say"):
            for other in (" " + line, line + " ", line.replace(" ", "  "), line.replace(" ", "  ", 1)):
                if other != line:
                    self.assert_no_line(other)
        self.assert_no_line("phrase no :  no")
        self.assert_no_line("phrase no  : no")
        self.assert_no_line("say yes  no")

    def test_28_a_value_a_pair_or_a_word_too_few(self):
        for line in ("field", "field room", "rule", "rule day", "rule day mon size", "rule day mon size big hour",
                     "phrase", "phrase no", "phrase no :", "phrase : no", "phrase :", "phrase no no", "hear", "hear on",
                     "phrase set day : on", "phrase set : on", "phrase not day : on", "phrase drop : on",
                     "phrase set day mon :"):
            self.assert_no_line(line)

    def test_28_words_too_many(self):
        for line in ("hear on one two", "phrase yes no : on", "phrase yes day : on", "phrase no day mon : on",
                     "phrase drop day mon : on", "phrase set day mon tue : on", "phrase not day mon size big : on",
                     "phrase no : on : off", "phrase : no : on", "phrase no : :", "phrase no :: on"):
            self.assert_no_line(line)

    def test_28_what_is_no_act(self):
        for line in ("phrase maybe : on", "phrase ask day : on", "phrase lost : on", "phrase confirm day mon : on",
                     "phrase done : on", "phrase again : on", "phrase sets day mon : on", "phrase Set day mon : on",
                     "phrase day mon : on", "phrase set, day mon : on"):
            self.assert_no_line(line)

    def test_28_words_of_other_signs(self):
        for word in ("Day", "day1", "1", "day.", "d-ay", "day,", "_", "d'ay", "\u00e9", "d\u0430y", ":", "a:", "{", "`", "@"):
            for line in ("field {} a", "field a {}", "field a b {}", "rule {} mon", "rule day {}", "rule day mon size {}",
                         "phrase set {} mon : on", "phrase set day {} : on", "phrase drop {} : on", "phrase no : {}",
                         "phrase no : on {}", "phrase {} : on", "hear {} on", "hear on {}", "say {}", "say on {}", "{}"):
                self.assert_no_line(line.format(word))

    def test_28_a_colon_of_its_own(self):
        for line in ("phrase no: on", "phrase no :on", "phrase no:on", "say : on", "field : a", "hear : on", "rule : a",
                     "begin :", "phrase no on :", ": phrase no on"):
            self.assert_no_line(line)

    def test_29_what_is_no_text_without_line_feeds(self):
        for line in SMALL_LINES + ("begin", "prompt", "say", "say yes"):
            for other in (line + "\n", "\n" + line, line.replace(" ", "\n"), line + "\r", line + "\x00", line + "\u00e9"):
                if other != line:
                    self.assert_no_line(other)
        for thing in list(ODD_THINGS) + [(), [], ["begin"], ("begin",), nested(39, "begin")]:
            self.assert_no_line(thing)
            self.assert_no_line(thing, Desk())

    def test_28_words_of_more_letters_are_words(self):
        for line in ("field ninesigns a", "field a ninesigns", "rule ninesigns a", "rule day ninesigns", "hear ninesigns on",
                     "hear on ninesigns", "phrase set ninesigns mon : on", "phrase no : ninesigns", "phrase no : on ninesigns",
                     "phrase drop ninesigns : on", "phrase not day ninesigns : on", "phrase no : " + "x" * 3000):
            self.assertEqual(begun().tell(line), BAD, line)
            self.assertEqual(Desk().tell(line), BAD, line)


class TestRefused(DeskCase):

    def assert_refused(self, lines, line, expected, *then):
        """The line is refused, and all is as if it had not been told."""
        desk, other = told(*lines), told(*lines)
        self.assertEqual(desk.tell(line), expected)
        self.assertEqual(desk.log(), other.log() + line + "\n")
        for further in then + ("begin", "prompt", "states", "double", "facts"):
            self.assertEqual(desk.tell(further), other.tell(further), further)

    def test_29_field(self):
        for line in ("field day in out", "field room in in", "field room a b c d e f", "field room in ninesigns"):
            self.assert_refused(SMALL_LINES, line, BAD)
        six = tuple("field " + name + " a" for name in "abcdef") + ("phrase no : no",)
        self.assert_refused(six, "field g a", BAD)
        self.assert_refused((), "field a b b", BAD, "field a b c", "phrase no : no")

    def test_29_too_many_fillings(self):
        lines = tuple("field " + name + " u v w x y" for name in "abcd") + ("phrase no : no",)
        self.assert_refused(lines, "field e u v", MANY)
        self.assertEqual(told(*lines).tell("field e u"), "ok")
        # What is wrong is told ahead of it.
        self.assert_refused(lines, "field a u v", BAD)
        self.assertEqual(told(*lines, "field e u v").tell("field e u"), "ok")

    def test_29_rule(self):
        for line in ("rule day mon day mon", "rule day mon day tue", "rule day big", "rule days mon", "rule room in",
                     "rule day mon size big hour one day tue", "rule day mon size big hour one room in mon day"):
            self.assert_refused(SMALL_LINES, line, BAD)
        five = tuple("field " + name + " a b" for name in "abcde") + ("phrase no : no",)
        self.assert_refused(five, "rule a a b a c a d a e a", BAD)
        self.assertEqual(told(*five).tell("rule a a b a c a d a"), "ok")

    def test_29_rules_as_handed_in(self):
        lines = FIELD_LINES + ("phrase no : no",) + ("rule day mon size big",) * 20
        self.assertEqual(told(*lines[:-1]).tell("rule day mon size big"), "ok")
        self.assert_refused(lines, "rule day mon size big", BAD)
        self.assert_refused(lines, "rule day tue hour two", BAD)

    def test_29_rules_ahead_of_the_first_field(self):
        self.assert_refused((), "rule day mon", BAD, "field day mon tue", "phrase no : no")

    def test_29_phrase(self):
        for line in ("phrase set day big : on", "phrase set days mon : on", "phrase not hour big : on", "phrase drop mon : on",
                     "phrase no : a b c d e f g", "phrase no : no", "phrase set day mon : on monday", "phrase yes : right"):
            self.assert_refused(SMALL_LINES, line, BAD)
        self.assertEqual(begun().tell("phrase no : a b c d e f"), "ok")
        self.assertEqual(begun().tell("phrase no : right"), "ok")
        self.assertEqual(begun().tell("phrase no : nay"), "ok")

    def test_29_phrase_ahead_of_the_first_field(self):
        self.assert_refused((), "phrase no : no", BAD, "field day mon tue")
        self.assert_refused((), "phrase set day mon : on", BAD, "field day mon tue", "phrase no : no")

    def test_29_more_than_sixty_phrases(self):
        lines = ("field a b",) + tuple(f"phrase no : {word_of(at)}" for at in range(60))
        self.assertEqual(told(*lines[:-1]).tell(lines[-1]), "ok")
        self.assert_refused(lines, "phrase no : another", BAD)

    def test_29_hear(self):
        for line in ("hear ninesigns on", "hear on ninesigns", "hear ninesigns ninesigns"):
            self.assert_refused(SMALL_LINES, line, BAD)
            self.assertEqual(Desk().tell(line), BAD)
        self.assert_answers(Desk(), ("hear on on", "ok"), ("hear on on", "ok"), ("hear eightsig on", "ok"))

    def test_29_begin(self):
        self.assertEqual(Desk().tell("begin"), BAD)
        self.assertEqual(told("field a b").tell("begin"), BAD)
        self.assertEqual(told("hear a b").tell("begin"), BAD)
        self.assertEqual(told("field a b", "phrase no : no").tell("begin"), "done a b")

    def test_29_a_begin_that_is_refused_begins_nothing(self):
        desk = told("field a b c", "begin")
        self.assert_answers(desk, ("prompt", NOTHING), ("say no", NOTHING), ("phrase set a b : on", "ok"),
                            ("prompt", NOTHING), ("begin", "ask a"), ("prompt", "ask a"))

    def test_29_the_elder_dialogue_stays(self):
        # No begin behind one that was taken is refused by what can be told, so the phrases are taken away here.
        desk = begun("say large at one")
        desk._phrases = []
        self.assert_answers(desk, ("begin", BAD), ("prompt", "done day tue, size big, hour one"),
                            ("facts", "size big, hour one"), ("say any hour", "ask hour"))

    def test_29_ahead_of_the_first_begin(self):
        for lines in ((), FIELD_LINES, SMALL_LINES, ("begin",), FIELD_LINES + ("begin",)):
            for line in ("say", "say on monday", "prompt", "facts", "states", "double"):
                desk = told(*lines)
                self.assertEqual(desk.tell(line), NOTHING)
                self.assertEqual(desk.tell(line), NOTHING)
        self.assert_answers(told(*SMALL_LINES, "say on monday"), ("begin", "ask day"), ("facts", ""))

    def test_29_what_is_no_line_changes_nothing(self):
        desk, other = begun("say large"), begun("say large")
        for line in ("field a", "rule a b c", "phrase yes", "hear a", "say Yes", "begin ", None, "x\n"):
            self.assert_no_line(line, desk)
            self.assertEqual(seen(desk), seen(other))
        self.assert_answers(desk, ("prompt", "ask hour"), ("facts", "size big"), ("double", "none"))
        self.assertEqual(desk.tell("begin"), other.tell("begin"))


class TestLog(DeskCase):

    def test_29_the_lines_that_were_answered(self):
        self.assertEqual(Desk().log(), "")
        desk = Desk()
        lines = ("say", "field a b c", "field a b", "begin", "phrase set a b : on", "begin", "say on", "facts", "double",
                 "states", "rule b a", "prompt")
        answers = [desk.tell(line) for line in lines]
        self.assertEqual(answers, [NOTHING, "ok", BAD, BAD, "ok", "ask a", "done a b", "a b", "none", "3", BAD, "done a b"])
        self.assertEqual(desk.log(), "".join(line + "\n" for line in lines))

    def test_29_what_raised_is_not_in_it(self):
        desk = Desk()
        for line in ("field a b c", "what", "field a", "begin", None, "begin\n", "phrase no : no"):
            try:
                desk.tell(line)
            except BadLine:
                pass
        self.assertEqual(desk.log(), "field a b c\nbegin\nphrase no : no\n")

    def test_29_replayed(self):
        for desk in (Desk(), told("begin"), told(*SMALL_LINES), begun(), begun("say on monday", "say", "facts"),
                     begun("field room in", "say large", "begin", "say yes", "rule day mon"), told("rule a b", "prompt")):
            other = replayed(desk.log())
            self.assertIsInstance(other, Desk)
            self.assertEqual(other.log(), desk.log())
            self.assertEqual(seen(other), seen(desk))
            for line in ("say at one", "begin", "say little", "states", "double", "field last a"):
                self.assertEqual(other.tell(line), desk.tell(line))

    def test_29_replayed_is_another_desk(self):
        desk = begun()
        other = replayed(desk.log())
        other.tell("say large")
        self.assertEqual(desk.tell("facts"), "")
        self.assertEqual(other.tell("facts"), "size big")

    def assert_bad_log(self, at, log):
        with self.assertRaises(BadLine, msg=repr(log)[:300]) as caught:
            replayed(log)
        self.assertEqual(caught.exception.at, at)
        self.assertIs(type(caught.exception.at), int)

    def test_29_a_line_that_raises(self):
        lines = ["field a b c", "begin", "phrase no : no", "begin", "say no"]
        for at in range(len(lines) + 1):
            for line in ("", " ", "what", "begin ", "say No", "\r", "\u00e9", "field a"):
                log = "".join(row + "\n" for row in lines[:at] + [line] + lines[at:])
                self.assert_bad_log(at, log)
                self.assert_bad_log(at, log + "what\n")
                self.assert_bad_log(at, log + "begin")

    def test_29_the_last_line_without_a_line_feed(self):
        log = begun("say large").log()
        self.assert_bad_log(log.count("\n") - 1, log[:-1])
        self.assert_bad_log(0, "begin")
        self.assert_bad_log(0, "x")
        self.assert_bad_log(2, "begin\nprompt\nfacts")
        self.assert_bad_log(1, "begin\nwhat\nfacts")
        self.assert_bad_log(1, "begin\n ")

    def test_29_parted_at_line_feeds_alone(self):
        for sign in ("\r", "\r\n", "\x0b", "\x0c", "\x1c", "\u2028", "\x85"):
            self.assert_bad_log(0, "begin" + sign + "begin\n")
            self.assert_bad_log(1, "begin\nprompt" + sign + "\n")

    def test_29_no_lines(self):
        self.assertEqual(replayed("").log(), "")
        self.assertEqual(replayed("").tell("begin"), BAD)
        self.assert_bad_log(0, "\n")

    def test_29_what_is_no_string(self):
        for thing in [odd for odd in ODD_THINGS if odd != ""] + [(), [], ["begin"], ("begin\n",), nested(39, "begin\n")]:
            self.assert_bad_log(0, thing)


class TestWhole(DeskCase):

    def test_28_as_the_parts_tell(self):
        for seed in range(60):
            chance = Random(seed)
            fields, rules, phrases, hearing = random_talk(seed)
            texts = [text for text, _ in phrases] + ["hm", ""]
            said = [chance.choice(texts) for _ in range(6)]
            desk = told(*[" ".join(("field", name) + values) for name, values in fields],
                        *["rule " + " ".join(name + " " + value for name, value in rule) for rule in rules],
                        *["phrase " + " ".join(act) + " : " + text for text, act in phrases],
                        *["hear " + " ".join(pair) for pair in hearing])
            lines = [desk.tell("begin")]
            for utterance in said:
                lines += [" ".join(["user"] + utterance.split()), desk.tell(" ".join(["say"] + utterance.split()))]
            form = Form(fields, rules)
            self.assertEqual("".join(line + "\n" for line in lines), log_of(form, phrases, hearing, said))
            machine = least(compiled(Dialogue(form, phrases, hearing)))
            self.assertEqual(desk.tell("states"), str(len(machine[1])))
            double = first_double(form, phrases)
            self.assertEqual(desk.tell("double"), "none" if double is None else "twice " + double)
            self.assertEqual(replayed(desk.log()).log(), desk.log())


class TestBasics(DeskCase):

    def test_1_by_position_and_by_name(self):
        desk = Desk()
        self.assertEqual(desk.tell(line="field a b"), "ok")
        self.assertEqual(replayed(log=desk.log()).log(), "field a b\n")

    def test_1_desks_do_not_mix(self):
        one, two = Desk(), Desk()
        one.tell("field a b c")
        two.tell("field d e f")
        one.tell("phrase drop a : on")
        self.assert_answers(two, ("phrase drop a : on", BAD), ("phrase drop d : on", "ok"), ("begin", "ask d"))
        self.assert_answers(one, ("prompt", NOTHING), ("begin", "ask a"))

    def test_1_equal_calls_give_equal_results(self):
        one, two = Desk(), Desk()
        for line in SMALL_LINES + ("begin", "say large", "states", "double", "field a", "facts"):
            if line != "field a":
                self.assertEqual(one.tell(line), two.tell(line))
        self.assertEqual(one.log(), two.log())

    def test_1_no_deep_nesting_of_calls(self):
        with shallow_calls():
            desk = begun("states", "double", "say on monday")
            self.assertEqual(replayed(desk.log() + "say yes\n" * 400).tell("prompt"), "ask hour")

    def test_1_many_lines_in_good_time(self):
        phrases = tuple(f"phrase {' '.join(act)} : {word_of(at)}" for at, act in enumerate(all_acts(SMALL_FIELDS)))
        hear = tuple(f"hear {word_of(at % 600)} {word_of((7 * at) % 600)}" for at in range(2000))
        desk = replayed("".join(line + "\n" for line in FIELD_LINES + phrases + hear + ("begin",)))
        self.assertEqual(desk.tell("prompt"), "ask day")

    def test_1_methods_defined_in_the_class(self):
        for name in ("__init__", "tell", "log"):
            self.assertIn(name, vars(Desk))
        self.assertEqual((Desk.__module__, replayed.__module__), ("sayfill.desk", "sayfill.desk"))


if __name__ == "__main__":
    unittest.main()
