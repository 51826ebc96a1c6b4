"""The program held against tests/model.py over long lists of mixed calls, all of the yard told after each few."""

import unittest

from calls import ask_rows, look
from model import model_answers
from somecalls import ROUTES, SECTIONS, some_calls, some_trains

LOOK = look(SECTIONS, 6, 4, ROUTES)


def with_looks(calls):
    """The calls, and LOOK behind every twentieth, as far as there's room for it."""
    looked = []
    for at, call in enumerate(calls):
        looked.append(call)
        if at % 20 == 19 and len(looked) + len(LOOK) + len(calls) - at <= 500:
            looked += LOOK
    return looked


class ModelTest(unittest.TestCase):
    def lists(self):
        lists = [some_calls(seed) for seed in range(30)]
        lists += [with_looks(some_calls(seed, 200)) for seed in range(30, 60)]
        lists += [with_looks(some_trains(seed)) for seed in range(60)]
        return lists

    def test_the_program_answers_as_the_model_does(self):
        for number, calls in enumerate(self.lists()):
            self.assertLessEqual(len(calls), 500)
            told, expected = ask_rows(calls), model_answers(calls)
            for at, call in enumerate(calls):
                self.assertEqual(told[at], expected[at], (number, at, call))

    def test_the_lists_meet_all_that_can_be_answered(self):
        met = set()
        for calls in self.lists():
            for call, row in zip(calls, model_answers(calls)):
                met.add((call[0], min(row[0], 0)))
                if call[0] in (7, 11):
                    met.add((call[0], row[0]))
                if call[0] == 12 and len(row) == 3:
                    met.add((12, "occupied", row[1], "locked", row[2] >= 0))
                if call[0] == 13 and len(row) == 4:
                    met.add((13, "held", row[3]))
                if call[0] == 14 and len(row) == 4:
                    met.add((14, "state", min(row[1], 1), "in", row[2], "free", row[3]))
        wanted = {(kind, -2) for kind in range(2, 15)} | {(kind, 0) for kind in range(1, 15)}
        wanted |= {(kind, refusal) for kind in (5, 6) for refusal in (-3, -4, -5)}
        wanted |= {(7, 120), (7, -3), (11, 1), (13, "held", 0), (13, "held", 1)}
        wanted |= {(12, "occupied", on, "locked", locked) for on in (0, 1) for locked in (False, True)}
        wanted |= {(14, "state", -1, "in", 1, "free", free) for free in (0, 1, 2, 3)}
        wanted |= {(14, "state", state, "in", 0, "free", 0) for state in (-1, 0, 1)}
        self.assertEqual(wanted - met, set())


if __name__ == "__main__":
    unittest.main()
