"""create, add_shade, remove_shade and set_count; what a refusal leaves as it was."""

import unittest

from helper import (
    HIGHEST, LOWEST, add_shade, ask, ask_one, best_groups, best_palette, colour_of, create,
    describe, error_reduction, error_table, group_counts, median, min_colours, min_error,
    palette_error, picture, remove_shade, request, set_count, state_after, totals,
)

FOUR = [(20, 3), (30, 1), (100, 2), (110, 1)]
TWELVE = [(20 * number, 1 + number) for number in range(12)]
OTHERS = [
    add_shade(100, 2), remove_shade(0), set_count(0, 5), min_error(1), best_palette(1),
    best_groups(1), colour_of(0, 1), error_reduction(1), error_table(), min_colours(0),
    palette_error([20, 100]), median(0, 0), group_counts(1), totals(), describe(),
]
# Every operation from number 4 on, as a call that is answered on FOUR, TWELVE and one shade.
QUERIES = [
    min_error(1), min_error(2), best_palette(1), best_palette(12), best_groups(2),
    colour_of(0, 2), error_reduction(1), error_reduction(12), error_table(), min_colours(0),
    min_colours(15), palette_error([0]), palette_error(range(250, 238, -1)), median(0, 0),
    group_counts(2), totals(), describe(),
]


class CreateTest(unittest.TestCase):
    def test_answers_0(self):
        self.assertEqual(request([create()]), [[0]])

    def test_new_instance_has_no_shades(self):
        self.assertEqual(request([create(), best_palette(12)])[1], [0])

    def test_second_create_makes_an_instance_without_shades(self):
        calls = picture(FOUR) + [create()]
        self.assertEqual(request(calls)[-1], [0])
        self.assertEqual(state_after(calls), [])
        self.assertEqual(request(calls + [add_shade(30, 7)])[-1], [0])

    def test_every_other_call_ahead_of_it_answers_minus_11(self):
        for call in OTHERS:
            with self.subTest(call=call):
                self.assertEqual(request([call]), [[-11]])

    def test_minus_11_comes_ahead_of_every_other_error(self):
        wrong = [
            add_shade(256, 0), remove_shade(-1), set_count(-1, 0), min_error(13),
            best_palette(-1), best_groups(HIGHEST), colour_of(LOWEST, 0), min_error(0),
            error_reduction(0), error_reduction(13), min_colours(-1), palette_error([]),
            palette_error([256]), palette_error([7] * 70), median(-1, 0), median(1, 0),
            group_counts(0), group_counts(-1),
        ]
        self.assertEqual(request(wrong), [[-11]] * len(wrong))

    def test_calls_ahead_of_it_leave_no_trace(self):
        self.assertEqual(state_after(OTHERS + [create()]), [])
        self.assertEqual(request(OTHERS + [create(), add_shade(100, 2)])[-2:], [[0], [0]])


class AddShadeTest(unittest.TestCase):
    def test_answers_the_index_among_the_levels(self):
        calls = [add_shade(100, 2), add_shade(20, 3), add_shade(110, 1), add_shade(30, 1)]
        self.assertEqual(ask([], *calls), [[0], [0], [2], [1]])
        self.assertEqual(state_after([create()] + calls), FOUR)

    def test_edges_of_level_and_count(self):
        calls = [add_shade(255, 999), add_shade(0, 1), add_shade(254, 1), add_shade(1, 999)]
        self.assertEqual(ask([], *calls), [[0], [0], [1], [1]])
        self.assertEqual(
            state_after([create()] + calls), [(0, 1), (1, 999), (254, 1), (255, 999)])

    def test_level_out_of_range(self):
        for level in (-1, 256, LOWEST, HIGHEST):
            self.assertEqual(ask_one([], add_shade(level, 1)), [-22], level)

    def test_count_out_of_range(self):
        for count in (-1, 0, 1000, LOWEST, HIGHEST):
            self.assertEqual(ask_one([], add_shade(5, count)), [-22], count)

    def test_level_that_is_there(self):
        for level, count in FOUR:
            self.assertEqual(ask_one(FOUR, add_shade(level, count)), [-17])

    def test_twelfth_and_thirteenth_shade(self):
        answered = ask(TWELVE[:11], add_shade(250, 1), add_shade(5, 1))
        self.assertEqual(answered, [[11], [-28]])

    def test_order_of_errors(self):
        self.assertEqual(ask_one(FOUR, add_shade(30, 0)), [-22])
        self.assertEqual(ask_one(TWELVE, add_shade(20, 1000)), [-22])
        self.assertEqual(ask_one(TWELVE, add_shade(256, 1)), [-22])
        self.assertEqual(ask_one(TWELVE, add_shade(21, 0)), [-22])
        self.assertEqual(ask_one(TWELVE, add_shade(20, 1)), [-17])

    def test_place_is_free_again_after_a_removal(self):
        answered = ask(TWELVE, remove_shade(3), add_shade(61, 1), add_shade(62, 1))
        self.assertEqual(answered, [[11], [3], [-28]])


class RemoveShadeTest(unittest.TestCase):
    def test_answers_how_many_remain(self):
        calls = [remove_shade(1), remove_shade(2), remove_shade(0), remove_shade(0)]
        self.assertEqual(ask(FOUR, *calls), [[3], [2], [1], [0]])

    def test_later_indices_decrease(self):
        calls = picture(FOUR) + [remove_shade(1)]
        self.assertEqual(state_after(calls), [(20, 3), (100, 2), (110, 1)])
        self.assertEqual(state_after(calls + [remove_shade(2)]), [(20, 3), (100, 2)])

    def test_removed_level_may_be_added_again(self):
        self.assertEqual(ask(FOUR, remove_shade(1), add_shade(30, 9)), [[3], [1]])

    def test_no_such_shade(self):
        for i in (-1, 4, LOWEST, HIGHEST):
            self.assertEqual(ask_one(FOUR, remove_shade(i)), [-2], i)
        self.assertEqual(ask_one([], remove_shade(0)), [-2])


class SetCountTest(unittest.TestCase):
    def test_answers_the_previous_count(self):
        answered = ask(FOUR, set_count(0, 7), set_count(0, 8), set_count(3, 5))
        self.assertEqual(answered, [[3], [7], [1]])

    def test_changes_this_count_alone(self):
        calls = picture(FOUR) + [set_count(2, 50)]
        self.assertEqual(state_after(calls), [(20, 3), (30, 1), (100, 50), (110, 1)])

    def test_edges_of_count(self):
        answered = ask(FOUR, set_count(1, 999), set_count(1, 1), set_count(1, 2))
        self.assertEqual(answered, [[1], [999], [1]])

    def test_no_such_shade(self):
        for i in (-1, 4, LOWEST, HIGHEST):
            self.assertEqual(ask_one(FOUR, set_count(i, 5)), [-2], i)
        self.assertEqual(ask_one([], set_count(0, 5)), [-2])

    def test_count_out_of_range(self):
        for count in (0, -1, 1000, LOWEST, HIGHEST):
            self.assertEqual(ask_one(FOUR, set_count(3, count)), [-22], count)

    def test_order_of_errors(self):
        self.assertEqual(ask_one(FOUR, set_count(4, 0)), [-2])
        self.assertEqual(ask_one(FOUR, set_count(-1, 1000)), [-2])


class RefusalTest(unittest.TestCase):
    def check_unchanged(self, shades, refused):
        for call, code in refused:
            with self.subTest(call=call):
                calls = picture(shades) + [call]
                self.assertEqual(request(calls)[-1], [code])
                self.assertEqual(state_after(calls), shades)

    def test_leaves_the_shades_as_they_were(self):
        self.check_unchanged(FOUR, [
            (add_shade(-1, 5), -22), (add_shade(256, 5), -22), (add_shade(50, 0), -22),
            (add_shade(50, 1000), -22), (add_shade(30, 5), -17), (remove_shade(-1), -2),
            (remove_shade(4), -2), (set_count(-1, 5), -2), (set_count(4, 5), -2),
            (set_count(0, 0), -22), (set_count(3, 1000), -22), (min_error(0), -33),
            (min_error(13), -22), (best_palette(0), -33), (best_palette(-1), -22),
            (best_groups(0), -33), (best_groups(13), -22), (colour_of(-1, 2), -2),
            (colour_of(4, 2), -2), (colour_of(0, 13), -22), (colour_of(0, 0), -33),
            (error_reduction(0), -33), (error_reduction(13), -22), (min_colours(-1), -22),
            (palette_error([]), -22), (palette_error([20] * 13), -22),
            (palette_error([20, 256]), -22), (median(0, 4), -2), (median(-1, 0), -2),
            (median(3, 0), -22), (group_counts(0), -33), (group_counts(13), -22),
        ])

    def test_leaves_twelve_shades_as_they_were(self):
        self.check_unchanged(TWELVE, [(add_shade(50, 5), -28), (add_shade(40, 5), -17)])

    def test_leaves_an_instance_without_shades_as_it_was(self):
        self.check_unchanged([], [
            (add_shade(256, 1), -22), (remove_shade(0), -2), (set_count(0, 1), -2),
            (min_error(13), -22), (colour_of(0, 1), -2), (error_reduction(-1), -22),
            (min_colours(-1), -22), (palette_error([]), -22), (median(0, 0), -2),
            (group_counts(13), -22),
        ])

    def test_is_not_the_end_of_the_request(self):
        answered = ask([], add_shade(0, 0), add_shade(0, 1), remove_shade(1), min_error(1))
        self.assertEqual(answered, [[-22], [0], [-2], [0]])


class QueriesTest(unittest.TestCase):
    def test_each_leaves_the_shades_as_they_were(self):
        for shades in (FOUR, TWELVE, FOUR[:1]):
            for call in QUERIES:
                with self.subTest(shades=shades, call=call):
                    calls = picture(shades) + [call]
                    self.assertGreaterEqual(request(calls)[-1][0], 0)
                    self.assertEqual(state_after(calls), shades)

    def test_asked_again_each_answers_the_same(self):
        for shades in (FOUR, TWELVE, FOUR[:1]):
            answered = ask(shades, *(QUERIES + QUERIES))
            self.assertEqual(answered[:len(QUERIES)], answered[len(QUERIES):])

    def test_each_leaves_an_instance_without_shades_as_it_was(self):
        queries = [
            min_error(0), best_palette(0), best_groups(0), error_reduction(0), error_table(),
            min_colours(0), palette_error([5]), group_counts(0), totals(), describe(),
        ]
        self.assertEqual(state_after([create()] + queries), [])
        self.assertEqual(ask([], *(queries + [add_shade(9, 9), describe()]))[-1], [1, 9, 9])


if __name__ == "__main__":
    unittest.main()
