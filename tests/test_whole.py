"""Point [1], over the whole program: from a text to what is told, and what is handed in and given back."""

import copy
import random
import unittest

from helper import RestlessMaker, TreeRun, guessed, run_made, told_of
from hunch.codes import coded
from hunch.machine import Machine
from hunch.making import quick_rows
from hunch.notes import Notes
from hunch.plain import State, do_row, walked
from hunch.quick import run_quick
from hunch.reading import program_text, read_program

# Tells the sums of the even numbers below 12, then their letters, one for each.
WRITTEN = """\
while < a 12
  if b
    set b 0
  else
    set c + c a
    say c
    set b 1
    set d + d 'x
  set a + a 1
say d
say + d c"""


class FromATextOn(unittest.TestCase):
    def test_the_same_whatever_is_guessed(self):
        program = read_program(WRITTEN)
        self.assertEqual(program_text(program), WRITTEN)
        code = coded(program)
        said = [0, 2, 6, 12, 20, 30, "xxxxxx"]
        names = {"a": 12, "b": 0, "c": 30, "d": "xxxxxx"}
        self.assertEqual(walked(code, {"d": ""}, 20), (said, ("mixed", len(code) - 3), names))
        chance = random.Random(5)
        for hot in (1, 2, 5, 40):
            for patience in (0, 1, 20):
                for room in (1, 8, 20, 200):
                    machine = Machine(code, {"d": ""}, 20, (hot, patience, room))
                    machine.hint(*guessed(code, chance))
                    self.assertEqual(machine.finish(), ("mixed", len(code) - 3))
                    self.assertEqual((machine.told(), machine.names_now()), (said, names))

    def test_many(self):
        for seed in range(60):
            maker = RestlessMaker(seed)
            program, names = maker.program(), maker.names()
            if program_text(program).count("\n") < 60:
                program = read_program(program_text(program))
            machine = Machine(coded(program), names, 40, (2, 1, 200))
            last = machine.finish()
            self.assertEqual((machine.told(), last, machine.names_now()), TreeRun(names, 40).run(program))


class HandedInAndGivenBack(unittest.TestCase):
    CODE = coded(read_program(WRITTEN))

    def test_notes_and_rows_that_are_handed_in_are_not_changed(self):
        notes = Notes({3: ("n", "n")}, {4: True})
        state = State({"d": ""}, 20)
        while state.place != 0 or state.left == 20:
            notes.see(self.CODE, state)
            do_row(self.CODE, state)
        kinds, ways, count = dict(notes.kinds), dict(notes.ways), notes.count(0)
        ahead = told_of(state)
        rows = quick_rows(self.CODE, 0, notes, 200)
        again = copy.deepcopy(rows)
        self.assertEqual((notes.kinds, notes.ways, notes.count(0)), (kinds, ways, count))
        self.assertEqual(told_of(state), ahead)
        notes.kinds.clear()
        notes.ways.clear()
        slow = copy.deepcopy(state)
        self.assertEqual(run_quick(rows, state), run_made(rows, slow))
        self.assertEqual(told_of(state), told_of(slow))
        self.assertEqual(rows, again)

    def test_one_state_and_one_machine_do_not_touch_another(self):
        names, kinds, ways = {"d": ""}, {3: ("n", "n")}, {4: True}
        given = copy.deepcopy((names, kinds, ways))
        machines = [Machine(self.CODE, names, 20, (1, 1, 200)) for _ in range(3)]
        for machine in machines:
            machine.hint(kinds, ways)
        wanted = walked(self.CODE, names, 20)
        for machine in machines:
            last = machine.finish()
            self.assertEqual((machine.told(), last, machine.names_now()), wanted)
            machine.told().clear()
            machine.names_now().clear()
        self.assertEqual((names, kinds, ways), given)
        names.clear()
        kinds.clear()
        ways.clear()
        for machine in machines:
            self.assertEqual((machine.told(), machine.finish(), machine.names_now()), wanted)


if __name__ == "__main__":
    unittest.main()
