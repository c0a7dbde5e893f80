"""Texts: [80], and [2] as far as it speaks of them."""

import re
import unittest

from lastofkind.errors import NoSystem, NoText
from lastofkind.systems import is_system
from lastofkind.texts import read_system, system_text

from tests.helpers import (
    CELLS, FIXED_SYSTEMS, HIDDEN, LONELY, NO_SYSTEMS, ONE_STATE, SWITCH, TURNS, all_systems, any_values, spoiled,
)

CELLS_TEXT = "states 4 start 0\n0: 0 1 0 1 kind 0\n1: 2 3 2 3 kind 0\n2: 0 0 2 2 kind 1\n3: 1 1 3 3 kind 1\n"
SWITCH_TEXT = (
    "states 6 start 2\n0: 0 0 0 3 3 3 kind 7\n1: 1 1 1 4 4 4 kind 7\n2: 2 2 2 5 5 5 kind 7\n"
    "3: 0 1 2 0 1 2 kind 9\n4: 3 4 5 3 4 5 kind 9\n5: 0 1 2 3 4 5\n"
)
FORM = re.compile("states ([0-9]) start ([0-9])\n((?:[0-9]:(?: [0-9])+(?: kind [0-9])?\n)+)")


def plain_text(system):
    states, start, operations, kinds = system
    text = "states " + str(states) + " start " + str(start) + "\n"
    for at in range(len(operations)):
        text += str(at) + ":"
        for state in operations[at]:
            text += " " + str(state)
        if kinds[at] is not None:
            text += " kind " + str(kinds[at])
        text += "\n"
    return text


def plain_read(text):
    """The system with this text, by the form of the lines, or None."""
    found = FORM.fullmatch(text)
    if not found:
        return None
    operations, kinds = [], []
    for at, line in enumerate(found[3].split("\n")[:-1]):
        name, rest = line.split(":")
        if int(name) != at:
            return None
        states, _, kind = rest.partition(" kind ")
        operations.append(tuple(map(int, states.split())))
        kinds.append(int(kind) if kind else None)
    system = (int(found[1]), int(found[2]), tuple(operations), tuple(kinds))
    return system if is_system(system) else None


def spoiled_texts(text):
    """All texts with one character left out, put in or put in the place of another, of those that stand in texts."""
    characters = "0123456789+-_ \n:.kindstaer"
    for at in range(len(text) + 1):
        yield text[:at] + text[at + 1:]
        for character in characters:
            yield text[:at] + character + text[at:]
            yield text[:at] + character + text[at + 1:]


class Texts(unittest.TestCase):
    def test_the_example(self):
        self.assertEqual(
            system_text((3, 0, ((1, 2, 0), (0, 0, 0)), (None, 0))), "states 3 start 0\n0: 1 2 0\n1: 0 0 0 kind 0\n"
        )

    def test_more_examples(self):
        self.assertEqual(system_text(CELLS), CELLS_TEXT)
        self.assertEqual(system_text(SWITCH), SWITCH_TEXT)
        self.assertEqual(system_text(ONE_STATE), "states 1 start 0\n0: 0 kind 0\n")
        self.assertEqual(system_text((1, 0, ((0,),), (None,))), "states 1 start 0\n0: 0\n")
        self.assertEqual(system_text(LONELY), (
            "states 1 start 0\n0: 0\n1: 0 kind 0\n2: 0 kind 9\n3: 0 kind 0\n4: 0\n5: 0 kind 3\n"
        ))
        self.assertEqual(system_text(HIDDEN), "states 4 start 3\n0: 1 0 2 2 kind 0\n1: 0 0 3 3 kind 0\n")

    def test_of_each_system(self):
        for system in all_systems():
            text = system_text(system)
            self.assertIs(type(text), str)
            self.assertEqual(text, plain_text(system))
            self.assertEqual(system_text(system), text)

    def test_no_system(self):
        for thing in list(NO_SYSTEMS) + any_values() + list(spoiled(CELLS)):
            with self.assertRaises(NoSystem) as caught:
                system_text(thing)
            self.assertIs(type(caught.exception), NoSystem)


class Systems(unittest.TestCase):
    def test_examples(self):
        system = read_system("states 3 start 0\n0: 1 2 0\n1: 0 0 0 kind 0\n")
        self.assertEqual(system, (3, 0, ((1, 2, 0), (0, 0, 0)), (None, 0)))
        self.assertEqual(read_system(CELLS_TEXT), CELLS)
        self.assertEqual(read_system(SWITCH_TEXT), SWITCH)

    def test_of_each_text(self):
        for system in all_systems():
            found = read_system(plain_text(system))
            self.assertEqual(repr(found), repr(system))
            self.assertEqual(system_text(found), plain_text(system))
            self.assertEqual(read_system(plain_text(system)), found)

    def refuse(self, text):
        with self.assertRaises(NoText) as caught:
            read_system(text)
        self.assertIs(type(caught.exception), NoText)

    def test_numbers(self):
        for word in ("02", "+2", "-2", "2.0", "", "00", "2_", "0x2", "two", "2 2", " 2", "12", "9999999999999", "_"):
            self.refuse(f"states {word} start 0\n0: 1 0\n")
            self.refuse(f"states 2 start {word}\n0: 1 0\n")
            self.refuse(f"states 2 start 0\n{word}: 1 0\n")
            self.refuse(f"states 2 start 0\n0: {word} 0\n")
            self.refuse(f"states 2 start 0\n0: 1 {word}\n")
            self.refuse(f"states 2 start 0\n0: 1 0 kind {word}\n")
        for word in ("01", "+1", "-1", "1.0", "-0"):
            self.refuse(f"states 2 start 0\n0: {word} 0\n")
            self.refuse(f"states 2 start {word}\n0: 1 0\n")
            self.refuse(f"states 2 start 0\n0: 1 0 kind {word}\n")

    def test_numbers_that_no_system_has(self):
        self.refuse("states 0 start 0\n0:\n")
        self.refuse("states 0 start 0\n0: \n")
        self.refuse("states 7 start 0\n0: 0 0 0 0 0 0 0\n")
        self.refuse("states 2 start 2\n0: 1 0\n")
        self.refuse("states 2 start 0\n0: 2 0\n")
        self.refuse("states 2 start 0\n0: 1 0 kind 10\n")
        self.refuse("states 1 start 0\n" + "".join([f"{at}: 0\n" for at in range(7)]))
        self.refuse("states 1 start 0\n" + "".join([f"{at}: 0\n" for at in range(11)]))
        self.refuse("states 1 start 0\n")
        self.assertEqual(read_system("states 2 start 1\n0: 1 0 kind 9\n"), (2, 1, ((1, 0),), (9,)))

    def test_digits_that_are_not_those_of_texts(self):
        for digit in ("\u0661", "\u00b9", "\uff11"):
            self.refuse(f"states {digit} start 0\n0: 0\n")
            self.refuse(f"states 2 start 0\n0: {digit} 0\n")
            self.refuse(f"states 2 start 0\n0: 1 0 kind {digit}\n")

    def test_spaces_and_line_feeds(self):
        for text in (
            "states 2  start 0\n0: 1 0\n", "states 2 start 0 \n0: 1 0\n", " states 2 start 0\n0: 1 0\n",
            "states 2 start 0\n0: 1  0\n", "states 2 start 0\n0:  1 0\n", "states 2 start 0\n0: 1 0 \n",
            "states 2 start 0\n0 : 1 0\n", "states 2 start 0\n0:1 0\n", "states 2 start 0\n 0: 1 0\n",
            "states 2 start 0\n0: 1 0 kind  0\n", "states 2 start 0\n0: 1 0 kind 0 \n", "states 2 start 0\n0: 1 0",
            "states 2 start 0\n0: 1 0\n\n", "states 2 start 0\n\n0: 1 0\n", "\nstates 2 start 0\n0: 1 0\n",
            "states 2 start 0 0: 1 0\n", "states 2 start 0\n0: 1 0 1: 1 0\n", "states 2 start 0\n0: 1 0\n ",
            "states 2 start 0\t\n0: 1 0\n", "states 2 start 0\r\n0: 1 0\r\n", "states 2\nstart 0\n0: 1 0\n",
        ):
            self.refuse(text)

    def test_words_missing_doubled_and_others(self):
        for text in (
            "", "\n", "\n\n", " ", "states", "states 2", "states 2 start", "states 2 start 0", "states 2 start 0\n",
            "0: 1 0\n", "start 0 states 2\n0: 1 0\n", "state 2 start 0\n0: 1 0\n", "states 2 begin 0\n0: 1 0\n",
            "States 2 start 0\n0: 1 0\n", "states 2 start 0 kind 0\n0: 1 0\n", "states 2 start 0\n0: 1 0 kind\n",
            "states 2 start 0\n0: 1 0 0\n", "states 2 start 0\n0: 1 0 sort 0\n", "states 2 start 0\n0: 1 0 0 0\n",
            "states 2 start 0\n0: 1 0 kind 0 kind 0\n", "states 2 start 0\n0: kind 0 1 0\n", "kind\nkind\nkind\n",
            "states 2 start 0\n0: 1\n", "states 2 start 0\n0: 1 0 0 kind 0\n", "states 2 start 0\n0: 1 kind 0\n",
            "states 2 start 0\n0: 1 0 kind None\n", "states 2 start 0\n0:\n", "states 2 start 0\n0\n",
            "states kind start kind\n0: kind\n", "states x start 0\n0: kind\n", "states x start 0\n\n\n",
            "states 2 start 0\nstates 2 start 0\n0: 1 0\n", "states 2 start 0\nkind kind\n",
        ):
            self.refuse(text)

    def test_another_order_of_lines(self):
        self.refuse("states 2 start 0\n1: 1 0\n0: 0 0\n")
        self.refuse("0: 1 0\nstates 2 start 0\n")
        self.refuse("states 2 start 0\n0: 1 0\n0: 0 0\n")
        self.refuse("states 2 start 0\n1: 1 0\n")
        self.refuse("states 2 start 0\n0: 1 0\n2: 0 0\n")
        lines = CELLS_TEXT.split("\n")
        self.refuse("\n".join(lines[:1] + lines[4:0:-1]) + "\n")
        self.refuse("\n".join(lines[:3] + lines[4:]))

    def test_texts_with_another_character(self):
        for system in FIXED_SYSTEMS:
            for text in spoiled_texts(plain_text(system)):
                found = plain_read(text)
                if found is None:
                    self.refuse(text)
                else:
                    self.assertEqual(repr(read_system(text)), repr(found))

    def test_any_value(self):
        for thing in any_values() + [CELLS, [CELLS_TEXT], (CELLS_TEXT,), {CELLS_TEXT: CELLS_TEXT}, CELLS_TEXT * 2]:
            self.refuse(thing)
        for thing in ("x" * 600, " " * 600, "\n" * 600, "states " * 80, "0 " * 300, "0: 0\n" * 120, CELLS_TEXT[::-1]):
            self.refuse(thing)
        self.refuse(CELLS_TEXT.encode())

    def test_turns_with_and_without_kinds(self):
        for kinds in ((None, None), (0, None), (None, 9), (3, 3)):
            system = TURNS[:3] + (kinds,)
            self.assertEqual(repr(read_system(system_text(system))), repr(system))


if __name__ == "__main__":
    unittest.main()
