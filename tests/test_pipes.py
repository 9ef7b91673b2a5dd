"""create, add_pipe, remove_pipe and ages."""

import unittest

from tests.calling import GREATEST, ask, built, last


class Create(unittest.TestCase):
    def test_it_answers_0_and_there_are_no_pipes(self):
        self.assertEqual(ask(("create",), ("ages",)), [[0], [0]])

    def test_a_second_one_removes_all_pipes(self):
        calls = built([10, 4], [9], [8, 1]) + [("operate", 0), ("create",), ("ages",), ("best_mean",)]
        self.assertEqual(ask(*calls)[-3:], [[0], [0], [-6]])

    def test_behind_a_second_one_pipes_are_numbered_from_0_with_age_0(self):
        calls = built([10, 4], [9]) + [("operate", 0)] + built([8, 1]) + [("ages",), ("operate", 0)]
        self.assertEqual(ask(*calls)[-4:], [[0], [0], [1, 0], [8]])


class AddPipe(unittest.TestCase):
    def test_it_answers_the_pipes_number(self):
        self.assertEqual(ask(*built([10, 4], [9], [8, 8, 8])), [[0], [0], [1], [2]])

    def test_a_new_pipe_has_age_0_and_the_others_keep_theirs(self):
        calls = built([10, 4, 2]) + [("operate_days", [0, 0]), ("add_pipe", [5, 1]), ("ages",), ("output_if", 0)]
        self.assertEqual(ask(*calls)[-2:], [[2, 2, 0], [2 + 5]])

    def test_one_to_four_outputs(self):
        for outputs in ([0], [100], [100, 0], [7, 7, 7], [100, 100, 0, 0], [4, 3, 2, 1]):
            with self.subTest(outputs=outputs):
                parts = ask(*built(outputs), *[("operate", 0)] * 6)
                by_day = outputs + [outputs[-1]] * 6
                self.assertEqual(parts[1:], [[0]] + [[output] for output in by_day[:6]])

    def test_wrong_outputs(self):
        wrong = [
            [],
            [1, 1, 1, 1, 1],
            [0] * 60,
            [101],
            [101, 50],
            [GREATEST],
            [GREATEST] * 4,
            [1, 2],
            [5, 5, 6],
            [5, 4, 3, 4],
            [0, 101],
            [100, 99, 98, GREATEST],
        ]
        for outputs in wrong:
            with self.subTest(outputs=outputs):
                self.assertEqual(ask(("create",), ("add_pipe", outputs), ("ages",)), [[0], [-22], [0]])

    def test_there_is_no_fourth_pipe(self):
        three = built([1], [1], [1])
        self.assertEqual(last(*three, ("add_pipe", [1])), [-28])
        self.assertEqual(last(*three, ("add_pipe", [1]), ("ages",)), [3, 0, 0, 0])

    def test_wrong_outputs_are_told_ahead_of_too_many_pipes(self):
        three = built([1], [1], [1])
        for outputs in ([], [1] * 5, [1, 2], [101]):
            with self.subTest(outputs=outputs):
                self.assertEqual(last(*three, ("add_pipe", outputs)), [-22])

    def test_a_removed_pipe_makes_room(self):
        three = built([1], [1], [1])
        self.assertEqual(last(*three, ("remove_pipe", 0), ("add_pipe", [1])), [2])


class RemovePipe(unittest.TestCase):
    def test_it_answers_how_many_remain(self):
        calls = built([1], [2], [3]) + [("remove_pipe", 0)] * 4
        self.assertEqual(ask(*calls)[-4:], [[2], [1], [0], [-2]])

    def test_the_pipes_behind_it_move_up_with_their_ages(self):
        start = built([90, 9, 8, 7], [60, 6, 5, 4], [30, 3, 2, 1]) + [("operate_days", [1, 2, 0])]
        self.assertEqual(last(*start, ("ages",)), [3, 2, 1, 3])
        looks = [("ages",), ("output_if", 0), ("output_if", 1), ("output_if", 2), ("output_if", 3)]
        expected = {
            0: [[2, 1, 3], [6 + 1], [1], [6], [-2]],
            1: [[2, 2, 3], [8 + 1], [1], [8], [-2]],
            2: [[2, 2, 1], [8 + 6], [6], [8], [-2]],
        }
        for pipe, answered in expected.items():
            with self.subTest(pipe=pipe):
                self.assertEqual(ask(*start, ("remove_pipe", pipe), *looks)[-5:], answered)

    def test_there_is_no_such_pipe(self):
        for pipes in ([], [[5]], [[5], [4]], [[5], [4], [3]]):
            for pipe in (len(pipes), len(pipes) + 1, GREATEST):
                with self.subTest(pipes=pipes, pipe=pipe):
                    self.assertEqual(last(*built(*pipes), ("remove_pipe", pipe)), [-2])


class Ages(unittest.TestCase):
    def test_without_pipes_there_is_the_count_alone(self):
        self.assertEqual(last(("create",), ("operate", 0), ("ages",)), [0])

    def test_the_count_and_the_ages_in_the_pipes_order(self):
        calls = built([9, 8, 7, 6], [5, 4, 3, 2], [1, 1, 1, 1]) + [("operate_days", [2, 3, 0]), ("ages",)]
        self.assertEqual(last(*calls), [3, 3, 2, 1])

    def test_they_end_at_their_maximum(self):
        start = built([9], [8, 7], [6, 5, 4, 3])
        for days, answered in ((0, [0, 0, 0]), (1, [0, 1, 1]), (2, [0, 1, 2]), (3, [0, 1, 3]), (20, [0, 1, 3])):
            with self.subTest(days=days):
                self.assertEqual(last(*start, ("operate_days", [0] * days), ("ages",)), [3] + answered)


if __name__ == "__main__":
    unittest.main()
