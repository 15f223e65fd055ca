"""What the document promises over the whole program: the interface, [1], and what binds the parts together."""

import importlib
import inspect
import os
import unittest
from random import Random

from sayfill.compiling import compiled
from sayfill.desk import Desk
from sayfill.dialogues import Dialogue
from sayfill.errors import BadLog
from sayfill.forms import Form
from sayfill.logs import log_holds, log_of
from sayfill.machines import is_machine, least, parting, spoken, walked
from sayfill.phrases import meanings
from sayfill.users import served

from plain_machines import LOST, random_talk

FOLDER = os.path.join(os.path.dirname(os.path.abspath(__file__)), os.pardir, "sayfill")

FUNCTIONS = {
    "filling": {"fillings": "form facts", "possible": "form facts field", "two_ways": "form facts field",
                "open_fields": "form facts", "forced": "form facts", "clash": "form facts"},
    "phrases": {"check_phrases": "form phrases", "meanings": "form phrases utterance", "first_double": "form phrases"},
    "hearing": {"heard": "hearing word", "heard_as": "hearing said other", "doubtful": "form phrases hearing"},
    "compiling": {"compiled": "dialogue"},
    "machines": {"is_machine": "machine", "walked": "machine acts", "spoken": "machine readings", "least": "machine",
                 "parting": "one other", "dead_ends": "machine"},
    "users": {"served": "dialogue filling"},
    "plans": {"outcome": "form outcomes filling", "settled": "form outcomes facts", "least_questions": "form outcomes",
              "best_plan": "form outcomes", "witness": "form outcomes k"},
    "checking": {"plan_holds": "form outcomes plan", "witness_holds": "form outcomes k paper"},
    "logs": {"log_of": "form phrases hearing utterances", "log_holds": "form phrases hearing log"},
    "desk": {"replayed": "log"},
}

CLASSES = {
    ("errors", "TalkError"): {},
    ("errors", "BadValue"): {"__init__": "at"}, ("errors", "BadField"): {"__init__": "name"},
    ("errors", "BadPaper"): {"__init__": "at"}, ("errors", "BadLog"): {"__init__": "at"},
    ("errors", "BadLine"): {"__init__": "at"}, ("errors", "TooMany"): {"__init__": "word"},
    ("errors", "NothingThere"): {"__init__": "word"},
    ("forms", "Form"): {"__init__": "fields rules", "fields": "", "rules": "", "__eq__": "other"},
    ("dialogues", "Dialogue"): {"__init__": "form phrases hearing", "prompt": "", "say": "utterance", "facts": "",
                                "sure": "", "lost": "", "copy": "", "form": "", "phrases": "", "hearing": ""},
    ("desk", "Desk"): {"__init__": "", "tell": "line", "log": ""},
}


def parameters(function):
    """The names of the parameters."""
    return list(inspect.signature(function).parameters)


def random_dialogue(seed):
    """A dialogue in which something was said perhaps, its parts, and texts to say."""
    chance = Random(seed)
    fields, rules, phrases, hearing = random_talk(seed)
    talk = Dialogue(Form(fields, rules), phrases, hearing)
    texts = [text for text, _ in phrases] + ["hm", ""]
    return talk, (Form(fields, rules), phrases, hearing), chance, texts


class TestInterface(unittest.TestCase):

    def test_1_functions(self):
        for name, functions in FUNCTIONS.items():
            module = importlib.import_module("sayfill." + name)
            for function, names in functions.items():
                self.assertEqual(parameters(getattr(module, function)), names.split(), function)
                self.assertEqual(getattr(module, function).__module__, "sayfill." + name)

    def test_1_classes(self):
        for (name, kind), methods in CLASSES.items():
            module = importlib.import_module("sayfill." + name)
            self.assertEqual(getattr(module, kind).__module__, "sayfill." + name)
            for method, names in methods.items():
                self.assertIn(method, vars(getattr(module, kind)))
                self.assertEqual(parameters(vars(getattr(module, kind))[method]), ["self"] + names.split())

    def test_1_the_package_is_one_folder_of_plain_files(self):
        for name in os.listdir(FOLDER):
            if name == "__pycache__":
                continue
            self.assertRegex(name, r"\A[a-z_]+\.py\Z")
            with open(os.path.join(FOLDER, name), encoding="utf-8") as file:
                lines = file.read().split("\n")
            self.assertLess(len(lines), 400, name)
            for line in lines:
                self.assertRegex(line, r"\A[ -~]{0,120}\Z", name)


class TestParts(unittest.TestCase):

    def test_16_compiled_machines_say_what_the_dialogue_says(self):
        for seed in range(100):
            talk, (form, phrases, _), chance, texts = random_dialogue(seed)
            for _ in range(chance.choice((0, 2))):
                talk.say(chance.choice(texts))
            machine, prompts = compiled(talk), [talk.prompt()]
            readings = []
            for _ in range(8):
                utterance = " ".join(chance.choice(texts) for _ in range(chance.choice((1, 1, 2))))
                told = meanings(form, phrases, utterance)
                readings.append(told[0] if len(told) == 1 and told[0] else None)
                prompts.append(talk.say(utterance))
            for kept in (machine, least(machine)):
                self.assertIs(is_machine(kept), True)
                self.assertEqual((kept[1][0],) + spoken(kept, readings), tuple(prompts))
            acts = [chance.choice(machine[0]) for _ in range(9)]
            self.assertEqual(walked(machine, acts), walked(least(machine), acts))
            self.assertIsNone(parting(machine, least(machine)))

    def test_19_what_a_user_is_served_is_what_the_machine_says(self):
        rows = 0
        for seed in range(60):
            _, (form, phrases, hearing), _, _ = random_dialogue(seed)
            acts = [("set", name, value) for name, values in form.fields() for value in values] + [("yes",)]
            phrases = tuple(phrases) + tuple((chr(97 + at) + " more", act) for at, act in enumerate(acts))
            talk = Dialogue(form, phrases, hearing)
            machine = compiled(talk)
            for at, prompt in enumerate(machine[1]):
                if prompt[0] == "done" and at % 7 == 0:
                    row = served(talk, prompt[1])
                    self.assertEqual(walked(machine, row[1::2]), row[::2])
                    self.assertEqual(row[-1], prompt)
                    rows += 1
        self.assertGreater(rows, 50)

    def test_27_a_log_is_one_just_if_it_holds(self):
        for seed in range(60):
            _, parts, chance, texts = random_dialogue(seed)
            said = [chance.choice(texts) for _ in range(5)]
            log = log_of(*parts, said)
            self.assertEqual(log_holds(*parts, log), 5)
            heard = [line[5:] for line in log.split("\n")[1:-1:2]]
            self.assertEqual(log_of(*parts, heard), log)
            for at in range(len(log)):
                other = log[:at] + log[at + 1:]
                words = [line[4:] for line in other.split("\n")[1:-1:2]]
                try:
                    log_holds(*parts, other)
                except BadLog:
                    continue
                self.assertEqual(log_of(*parts, words), other)

    def test_28_the_states_of_a_desk(self):
        for seed in range(40):
            talk, (form, phrases, hearing), chance, texts = random_dialogue(seed)
            desk = Desk()
            for name, values in form.fields():
                desk.tell(" ".join(("field", name) + values))
            for rule in form.rules():
                desk.tell("rule " + " ".join(name + " " + value for name, value in rule))
            for text, act in phrases:
                desk.tell("phrase " + " ".join(act) + " : " + text)
            for pair in hearing:
                desk.tell("hear " + " ".join(pair))
            desk.tell("begin")
            desk.tell("say " + chance.choice(texts[:-1]))
            self.assertEqual(desk.tell("states"), str(len(least(compiled(talk))[1])))

    def test_15_lost_stands_last(self):
        for seed in range(20):
            talk, _, _, _ = random_dialogue(seed)
            self.assertEqual(compiled(talk)[0][-1], LOST)


if __name__ == "__main__":
    unittest.main()
