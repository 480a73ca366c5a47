import unittest

from foldedwindows.screen import call_machine
from foldedwindows.state import Screen
from tests.asking import BEYOND, asked, check_refused, last, machine

ARM = (32, 126, 1, 0)


class MachineTest(unittest.TestCase):
    def test_answers_how_many_states(self):
        self.assertEqual(asked(machine((0,)), machine((1, ARM), (0,))), [[1], [2]])
        self.assertEqual(last(machine((2,), (1, (47, 47, 3, 2)), (0, ARM, ARM))), [3])

    def test_one_to_six_states(self):
        self.assertEqual(last(machine()), [-1])
        self.assertEqual(last(machine(*[(5,)] * 6)), [6])
        self.assertEqual(last(machine(*[(5,)] * 7)), [-1])

    def test_end_is_a_state(self):
        self.assertEqual(last(machine((0,), (1,))), [2])
        self.assertEqual(last(machine((0,), (2,))), [-1])
        self.assertEqual(last(machine((1,))), [-1])
        self.assertEqual(last(machine((BEYOND,))), [-1])

    def test_next_is_a_state(self):
        self.assertEqual(last(machine((0, (0, 0, 0, 1)), (0,))), [2])
        self.assertEqual(last(machine((0, (0, 0, 0, 2)), (0,))), [-1])
        self.assertEqual(last(machine((0, (0, 0, 0, BEYOND)))), [-1])

    def test_none_to_six_arms(self):
        self.assertEqual(last(machine((0,) + (ARM,) * 6)), [1])
        self.assertEqual(last(machine((0,) + (ARM,) * 7)), [-1])
        self.assertEqual(last(machine((0,) + (ARM,) * 49)), [-1])
        self.assertEqual(last(machine(*[(0,) + (ARM,) * 6] * 6)), [6])

    def test_from_is_not_above_to(self):
        self.assertEqual(last(machine((0, (40, 40, 0, 0)))), [1])
        self.assertEqual(last(machine((0, (41, 40, 0, 0)))), [-1])
        self.assertEqual(last(machine((0, (BEYOND, 255, 0, 0)))), [-1])

    def test_to_is_at_most_255(self):
        self.assertEqual(last(machine((0, (0, 255, 0, 0)))), [1])
        self.assertEqual(last(machine((0, (255, 255, 0, 0)))), [1])
        self.assertEqual(last(machine((0, (0, 256, 0, 0)))), [-1])
        self.assertEqual(last(machine((0, (256, 256, 0, 0)))), [-1])

    def test_colour_is_at_most_7(self):
        self.assertEqual(last(machine((0, (0, 0, 7, 0)))), [1])
        self.assertEqual(last(machine((0, (0, 0, 8, 0)))), [-1])

    def test_what_is_wrong_is_found_in_every_state_and_arm(self):
        self.assertEqual(last(machine((0,), (0,), (3,))), [-1])
        self.assertEqual(last(machine((0,), (0, ARM, ARM, (2, 1, 0, 0)))), [-1])
        self.assertEqual(last(machine((0, (2, 1, 0, 0), ARM), (0,))), [-1])

    def test_refusal_changes_nothing(self):
        check_refused(self, [machine((0,))], machine((1,)), -1)
        kept = Screen()
        self.assertEqual(kept.machine, [])
        call_machine(kept, [1, 1, 40, 41, 2, 0, 0, 0])
        self.assertEqual(kept.machine, [(1, [(40, 41, 2, 0)]), (0, [])])
        self.assertEqual(call_machine(kept, [1, 0]), [-1])
        self.assertEqual(kept.machine, [(1, [(40, 41, 2, 0)]), (0, [])])
