"""The section of readings.py: which texts can be read, and which cannot."""

import unittest

from seenbars.errors import GateError, Unreadable
from seenbars.keepers import Keeper
from seenbars.machines import Machine
from seenbars.readings import read_keeper, read_machine, read_task
from seenbars.tasks import Task
from seenbars.texts import show_keeper, show_machine, show_task
from tests.plain import BAD_NAMES, Numbers, lists_up_to, raised
from tests.reader import GOOD, plain_keeper, plain_machine, plain_task

CHARACTERS = [chr(code) for code in range(32, 127) if chr(code) != "%"]


def machine_from(spec):
    return Machine(*spec)


def task_from(spec):
    plant, rule, blockable, visible = spec
    return Task(Machine(*plant), Machine(*rule), blockable, visible)


# For each kind of text: what reads it, what reads it plainly, what makes the object of that, and what shows it.
KINDS = {"machine": (read_machine, plain_machine, machine_from, show_machine),
         "keeper": (read_keeper, plain_keeper, Keeper, show_keeper),
         "task": (read_task, plain_task, task_from, show_task)}


def changes(text):
    """All texts with one character more, less or another one, or with two neighbours exchanged."""
    for at in range(len(text) + 1):
        for character in CHARACTERS:
            yield text[:at] + character + text[at:]
            if at < len(text):
                yield text[:at] + character + text[at + 1:]
        if at < len(text):
            yield text[:at] + text[at + 1:]
            yield text[:at] + text[at + 1:at + 2] + text[at] + text[at + 2:]


def lists_of(characters, size):
    return [chosen for chosen in lists_up_to(characters, size) if len(chosen) == size]


class Unreadables(unittest.TestCase):
    def check(self, kind, text):
        """Whether a text was readable; what was read must be what the plain reader finds."""
        read, plain, make, show = KINDS[kind]
        spec = plain(text)
        if spec is None:
            self.assertEqual(raised(self, Unreadable, read, text), text)
            return False
        found = read(text)
        self.assertEqual(found, make(spec), text)
        self.assertEqual(show(found), text)
        return True

    def refuse(self, kind, wrong):
        for text in wrong:
            self.assertIsNone(KINDS[kind][1](text), text)
            self.assertFalse(self.check(kind, text), text)

    def test_what_the_plain_reader_takes(self):
        for kind, good in GOOD.items():
            for text in good:
                self.assertTrue(self.check(kind, text), text)

    def test_indexes(self):
        self.refuse("machine", ["00:", "0: a 00", "0: a 01 / 1!:", "0: a 1 / 01!:", "0: a 1 / 001!:", "0: a 0000",
                                "0: a 1000", "1000:", "0: a +0", "0: a -0", "0: a -1", "0: a 0.", "0: a x", "0: a ",
                                "0: a", "x:", ":", "a 0", "0: a 0!", "0: a 0_0", "+0:", "-0:", "0 :", "0! :", "0 !:",
                                "0!!:", "!0:", "0: a 1", "0: a 1 / 1: a 2", "0: a 1 / 1!: a 0, b 2", "1:", "0: a 999"])
        self.refuse("keeper", ["00 []:", "0 [b]: a 01 / 1 []:", "0 [b]: a 1 / 01 []:", "0 []: a 1000", "0 []: a 1",
                               "1000 []:", "x []:", "[]:", " []:", "1 []:", "0! []:", "0 []: a -0", "0 []: a 999"])

    def test_states_and_rooms(self):
        # Not in order, not reached, alike, or numbered otherwise than they are first reached.
        self.refuse("machine", ["1: / 0: a 1", "1!: / 0: a 1", "0: / 1:", "0: / 1!:", "0: a 0 / 1!:", "0: a 1 / 1: a 0",
                                "0: a 1 / 1: a 1", "0!: a 1 / 1!: a 1", "0: a 1, b 2 / 1!: / 2!:", "0: a 1 / 2!:",
                                "0: a 2, b 1 / 1!: / 2:", "0: a 2 / 1!: / 2: a 1", "0: a 1 / 1: a 2 / 2: b 0, c 3 / 3:"
                                ", d 0", "0: a 1 / 0: a 1", "0: a 1 / 1!: / 1!:", "0: a 1 / 1!: / 2!: a 0"])
        self.refuse("keeper", ["1 []: / 0 []: a 1", "0 []: / 1 []:", "0 []: / 1 [a]:", "0 []: a 1 / 1 []:",
                               "0 [a]: b 1 / 1 [a]: c 0", "0 []: a 2, b 1 / 1 [a]: / 2 [b]:", "0 []: a 1 / 2 [a]:",
                               "0 []: a 2 / 1 [a]: / 2 [b]: a 1", "0 []: a 1, b 2 / 1 [a]: / 2 [a]:"])
        self.refuse("keeper", ["0 []: a 0", "0 []: a 1 / 1 [a]: a 1", "0 []: a 1, b 0 / 1 [a]:"])

    def test_steps(self):
        self.refuse("machine", ["0: b 0, a 0", "0: a 0, a 0", "0: a 1, a 0 / 1!:", "0: a 0, a 1 / 1!:", "0: a 0,", "0:, a 0",
                                "0: a 0 b 0", "0: a 0,b 0", "0: a 0 , b 0", "0: a 0,, b 0", "0:a 0", "0: a0", "0: 0 a",
                                "0: a 0, b", "0: a, b 0", "0: a a 0", "0: a 0 0", "0", "0 a 0", "0; a 0", "0:: a 0",
                                "0: a: 0", "0: a 0:", "0: a 0; b 0"])
        self.refuse("keeper", ["0 []: b 1, a 1 / 1 [a]:", "0 []: a 1, a 1 / 1 [a]:", "0 []: a 1, / 1 [a]:",
                               "0 []:a 1 / 1 [a]:", "0 []", "0 [] a 1 / 1 [a]:", "0: / 1 [a]:", "0:", "0 :", "0!:"])

    def test_lists_of_events(self):
        self.refuse("keeper", ["0 [b a]:", "0 [a a]:", "0 [a,b]:", "0 [a, b]:", "0 [a b:", "0 a b]:", "0 a b:", "0 [[a]]:",
                               "0 [a]]:", "0 [[a]:", "0 [a][b]:", "0 [a] [b]:", "0 (a):", "0[a]:", "0 [a]", "0 []!:",
                               "0 [a:]", "0 [a 0]:", "0 [] []:", "0 ][:", "0 [ ]:"])
        plant = "plant 0!: a 0, b 0 | rule 0: a 0 | "
        self.refuse("task", [plant + end for end in [
            "blockable b a | visible", "blockable a a | visible", "blockable | visible b a", "blockable | visible b b",
            "blockable a,b | visible", "blockable a, b | visible", "blockable [a] | visible", "blockable c | visible",
            "blockable | visible c", "blockable a b c | visible", "blockable | visible plant", "blockable none | visible",
            "blockable a | visible aa", "blockable | visible 0", "blockable | visible 0: a 0"]])

    def test_events_of_the_rule_alone(self):
        text = "plant 0!: a 0 | rule 0: a 0, b 0 | blockable a | visible a"
        self.assertTrue(self.check("task", text))
        self.refuse("task", [text.replace("able a", "able b"), text.replace("ible a", "ible b"), text + " b"])

    def test_names(self):
        for name in BAD_NAMES + ["abcdefghij", "a.b", "a:", "a,", "a/b", "[a", "a]", "a|b", "0", "!", ":"]:
            self.refuse("machine", [f"0: {name} 0", f"0: a 0, {name} 0", f"0: a 1, {name} 0 / 1!:"])
            self.refuse("keeper", [f"0 [a {name}]:", f"0 [a]: {name} 1 / 1 []:"])
            self.refuse("task", [f"plant 0: {name} 0 | rule 0: | blockable | visible",
                                 f"plant 0: | rule 0: {name} 0 | blockable | visible",
                                 f"plant 0: | rule 0: | blockable {name} | visible",
                                 f"plant 0: | rule 0: | blockable | visible {name}"])
            if name not in ("", "a b"):
                self.refuse("keeper", [f"0 [{name}]:"])

    def test_parts_of_tasks(self):
        text = "plant 0!: a 1 / 1: b 0 | rule 0: a 0 | blockable a | visible b"
        self.assertTrue(self.check("task", text))
        parts = text.split(" | ")
        for at in range(4):
            self.refuse("task", [" | ".join(parts[:at] + parts[at + 1:]), " | ".join(parts[:at] + [parts[at]] + parts[at:]),
                                 " | ".join(parts[:at] + [""] + parts[at + 1:]), parts[at],
                                 " | ".join(parts[:at] + [parts[at].split(" ", 1)[-1]] + parts[at + 1:]),
                                 " | ".join(parts[:at] + ["x" + parts[at]] + parts[at + 1:])])
            for other in range(at):
                moved = list(parts)
                moved[at], moved[other] = moved[other], moved[at]
                self.refuse("task", [" | ".join(moved)])
                words = [part.split(" ", 1) for part in parts]
                words[at][0], words[other][0] = words[other][0], words[at][0]
                self.refuse("task", [" | ".join(" ".join(pair) for pair in words)])
        self.refuse("task", [" | ".join(parts + [""]), " | ".join([""] + parts), text.replace(" | ", "|"),
                             text.replace(" | ", " / "), text.replace(" / ", " | "), text + " | visible b",
                             text.replace("plant", "Plant"), text.replace("blockable", "blockabl"), "plant", "| | |",
                             " |  |  | ", "plant 0: | rule 0: | blockable | visible | ", "plant | rule | blockable | visible"])

    def test_spaces(self):
        """A space more or less at each place; only where two names become one, or one becomes two, can that be read."""
        for kind, good in GOOD.items():
            for text in good:
                for at in range(len(text) + 1):
                    beside = text[:at][-1:].isalpha() and text[at:at + 1].isalpha()
                    self.assertTrue(beside or not self.check(kind, text[:at] + " " + text[at:]))
                    self.check(kind, text[:at] + " " + text[at:])
                    if text[at:at + 1] == " ":
                        beside = text[:at][-1:].isalpha() and text[at + 1:at + 2].isalpha()
                        self.assertTrue(beside or not self.check(kind, text[:at] + text[at + 1:]))
                        self.check(kind, text[:at] + text[at + 1:])

    def test_nothing_and_more_than_a_text(self):
        for kind, good in GOOD.items():
            self.refuse(kind, ["", " ", "/", " / ", "|", " | ", ":", "0", "x", "none", "None", "0:" * 3])
            for text in good:
                self.refuse(kind, [text + " ", " " + text, text + ":", text + " /", text + " / ", "/ " + text, " / " + text,
                                   text + text, text + " / " + text, text + " | " + text, text + "~", text + "!", text + "]"])

    def test_texts_of_other_kinds(self):
        for kind in GOOD:
            for other, good in GOOD.items():
                for text in good:
                    if other != kind:
                        self.refuse(kind, [text])

    def test_single_changes(self):
        found = [0, 0]
        for kind, good in GOOD.items():
            for text in good:
                if len(text) <= 100:
                    for other in changes(text):
                        found[self.check(kind, other)] += 1
        self.assertGreater(found[0], 50000)
        self.assertGreater(found[1], 5000)

    def test_single_changes_of_longer_texts(self):
        found = [0, 0]
        numbers = Numbers(221)
        for kind, good in GOOD.items():
            for text in good:
                if len(text) > 100:
                    for other in changes(text):
                        if numbers.below(6) == 0:
                            found[self.check(kind, other)] += 1
        self.assertGreater(found[0], 1000)
        self.assertGreater(found[1], 100)

    def test_several_changes(self):
        numbers = Numbers(222)
        found = [0, 0]
        for _ in range(12000):
            kind = list(GOOD)[numbers.below(3)]
            good = GOOD[kind][:6]
            text = good[numbers.below(len(good))]
            pieces = [" ", " / ", ", ", ":", "!", "0", "1", "2", "a", "b", "[", "]", " | ", "a 0", "a 1", "plant", "rule"]
            for _ in range(1 + numbers.below(3)):
                at = numbers.below(len(text) + 1)
                piece = pieces[numbers.below(len(pieces))]
                end = at + numbers.below(3)
                text = text[:at] + piece + text[end:]
            found[self.check(kind, text)] += 1
        self.assertGreater(found[0], 5000)
        self.assertGreater(found[1], 200)

    def test_all_short_texts(self):
        """All texts of at most four of the characters that count."""
        for kind in GOOD:
            found = [text for size in range(5) for text in map("".join, lists_of("0! :[]a/", size))
                     if self.check(kind, text)]
            self.assertEqual(found, {"machine": ["0:", "0!:"], "keeper": [], "task": []}[kind])

    def test_the_text_is_the_whole_value(self):
        text = "plant 0: a 0 | rule 0: a 7 | blockable | visible"
        for call in (read_task, read_machine, read_keeper):
            with self.assertRaises(Unreadable) as caught:
                call(text=text)
            self.assertIs(type(caught.exception), Unreadable)
            self.assertIsInstance(caught.exception, GateError)
            self.assertEqual(caught.exception.value, text)


if __name__ == "__main__":
    unittest.main()
