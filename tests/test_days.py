"""operate, operate_days and output_if."""

import unittest

from tests.calling import GREATEST, all_choices, ask, built, day, followed, last

GROUPS = [
    [],
    [(10, 4)],
    [(0,)],
    [(100, 100, 0, 0)],
    [(9, 8, 1), (7,)],
    [(5, 4, 3, 2), (9, 0), (6, 6, 5)],
    [(100, 0), (100, 99, 98, 97), (50,)],
]


class Operate(unittest.TestCase):
    def test_a_pipe_has_no_output_on_the_day_of_its_cleaning(self):
        calls = built([10, 4], [7, 3]) + [("operate", 1), ("ages",), ("operate", 2), ("ages",), ("operate", 0)]
        self.assertEqual(ask(*calls)[-5:], [[7], [2, 0, 1], [10], [2, 1, 0], [4 + 7]])

    def test_without_pipes_a_day_has_no_output(self):
        self.assertEqual(ask(("create",), ("operate", 0), ("operate", 1)), [[0], [0], [-2]])

    def test_every_three_days_go_as_the_terms_say(self):
        for pipes in GROUPS:
            for choices in all_choices(pipes, 3):
                state = (0,) * len(pipes)
                expected = []
                for choice in choices:
                    output, state = day(pipes, state, choice)
                    expected.extend([[output], [len(pipes)] + list(state)])
                calls = built(*pipes)
                for choice in choices:
                    calls.extend([("operate", choice), ("ages",)])
                with self.subTest(pipes=pipes, choices=choices):
                    self.assertEqual(ask(*calls)[-6:], expected)

    def test_a_pipe_at_its_maximum_keeps_its_last_output(self):
        calls = built([10, 6, 3, 1]) + [("operate", 0)] * 7 + [("operate", 1), ("operate", 0)]
        self.assertEqual(ask(*calls)[2:], [[10], [6], [3], [1], [1], [1], [1], [0], [10]])

    def test_there_is_no_such_choice(self):
        for pipes in GROUPS:
            for choice in (len(pipes) + 1, len(pipes) + 2, GREATEST):
                with self.subTest(pipes=pipes, choice=choice):
                    parts = ask(*built(*pipes), ("operate", choice), ("ages",))
                    self.assertEqual(parts[-2:], [[-2], [len(pipes)] + [0] * len(pipes)])

    def test_the_last_pipe_is_a_choice(self):
        for pipes in GROUPS:
            with self.subTest(pipes=pipes):
                expected = sum(outputs[0] for outputs in pipes[:-1])
                self.assertEqual(last(*built(*pipes), ("operate", len(pipes))), [expected])


class OperateDays(unittest.TestCase):
    def test_no_days(self):
        for pipes in GROUPS:
            with self.subTest(pipes=pipes):
                parts = ask(*built(*pipes), ("operate_days", []), ("ages",))
                self.assertEqual(parts[-2:], [[0], [len(pipes)] + [0] * len(pipes)])

    def test_the_total_and_the_ages_behind_the_days(self):
        for pipes in GROUPS:
            for choices in all_choices(pipes, 4):
                total, state = followed(pipes, (0,) * len(pipes), choices)
                with self.subTest(pipes=pipes, choices=choices):
                    parts = ask(*built(*pipes), ("operate_days", list(choices)), ("ages",))
                    self.assertEqual(parts[-2:], [[total], [len(pipes)] + list(state)])

    def test_twenty_choices_and_no_more(self):
        start = built([10, 4], [7, 3])
        choices = [0, 1, 2, 1] * 5
        total, state = followed([(10, 4), (7, 3)], (0, 0), choices)
        self.assertEqual(ask(*start, ("operate_days", choices), ("ages",))[-2:], [[total], [2] + list(state)])
        for count in (21, 60):
            with self.subTest(count=count):
                parts = ask(*start, ("operate_days", [0] * count), ("ages",))
                self.assertEqual(parts[-2:], [[-22], [2, 0, 0]])

    def test_a_wrong_choice_anywhere_lets_no_day_pass(self):
        start = built([10, 4], [7, 3])
        for choices in ([3], [3, 0, 0], [0, 3, 0], [1, 2, 3], [0] * 19 + [GREATEST]):
            with self.subTest(choices=choices):
                self.assertEqual(ask(*start, ("operate_days", choices), ("ages",))[-2:], [[-2], [2, 0, 0]])

    def test_a_wrong_choice_is_told_ahead_of_too_many(self):
        start = built([10, 4], [7, 3])
        for choices in ([3] + [0] * 20, [0] * 20 + [3], [0] * 59 + [GREATEST]):
            with self.subTest(choices=choices):
                self.assertEqual(ask(*start, ("operate_days", choices), ("ages",))[-2:], [[-2], [2, 0, 0]])


class OutputIf(unittest.TestCase):
    def test_it_is_what_the_day_would_have(self):
        for pipes in GROUPS:
            for choices in all_choices(pipes, 2):
                start = built(*pipes) + [("operate_days", list(choices))]
                state = followed(pipes, (0,) * len(pipes), choices)[1]
                for choice in range(len(pipes) + 1):
                    with self.subTest(pipes=pipes, state=state, choice=choice):
                        output = day(pipes, state, choice)[0]
                        parts = ask(*start, ("output_if", choice), ("ages",), ("operate", choice))
                        self.assertEqual(parts[-3:], [[output], [len(pipes)] + list(state), [output]])

    def test_there_is_no_such_choice(self):
        for pipes in GROUPS:
            for choice in (len(pipes) + 1, GREATEST):
                with self.subTest(pipes=pipes, choice=choice):
                    self.assertEqual(last(*built(*pipes), ("output_if", choice)), [-2])


if __name__ == "__main__":
    unittest.main()
