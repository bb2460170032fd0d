"""The list of calls, the list of answers, the state, and -11 ahead of everything."""

import unittest

from sievecuts.sieves import answers
from tests.helper import (
    ALREADY_THERE, LARGEST, NEVER_ENOUGH, NO_SIFTER, NOT_THERE, NOTHING_THERE, OUTSIDE_LIMITS, TOO_MANY_SIZES,
    add_sieve, add_size, apply_best_sieves, ask, ask_last, best_sieves, create, destination, evaluate_sieves,
    gain_of_sieve, get_classes, get_sieves, get_sizes, lower_bound, misplaced, most_even_sieves, purity,
    remove_last_size, remove_sieve, set_sieves, set_size, sieves_needed, sifter, told, yields,
)


class Unchangeable(list):
    """A list that can be read only."""

    def refuse(self, *arguments, **named):
        raise AssertionError("what is handed in is changed")

    append = extend = insert = pop = remove = clear = sort = reverse = refuse
    __setitem__ = __delitem__ = __iadd__ = __imul__ = refuse


class ListOfAnswers(unittest.TestCase):
    def test_each_answer_stands_behind_its_length(self):
        calls = [0, 0, 0, 1, 2, 5, 6, 0, 3, 3, 0, 7, 8, 0, 4, 0, 0, 5, 1, 1, 0, 5, 0, 0, 6, 0, 0, 10, 1, 0, 0]
        self.assertEqual(
            answers(calls), [1, 0, 1, 0, 3, 0, 5, 6, 3, 1, 7, 8, 1, -22, 1, 7, 1, 0, 1, 7])

    def test_a_single_call(self):
        self.assertEqual(answers([0, 0, 0]), [1, 0])
        self.assertEqual(answers([4, 0, 0]), [1, -11])

    def test_each_answer_of_the_later_calls_stands_behind_its_length(self):
        calls = [0, 0, 0, 1, 2, 5, 6, 0, 1, 2, 9, 2, 0, 11, 1, 1, 0, 12, 1, 7, 0, 13, 0, 0, 14, 1, 1, 0, 15, 1, 1, 0,
                 16, 1, 1, 0, 17, 1, 1, 0, 18, 1, 1, 0, 18, 0, 0, 19, 1, 1, 0, 20, 0, 0]
        self.assertEqual(
            answers(calls), [1, 0, 1, 0, 1, 1, 1, 7, 1, 1, 1, 7, 1, -17, 1, 8, 1, 1, 2, 11, 1, 2, 7, 11, 2, 8, 22,
                             1, 1, 4, 14, 8, 14, 8])

    def test_answers_are_a_list_of_whole_numbers(self):
        asked = [get_classes(), purity(), best_sieves(1), apply_best_sieves(1), sieves_needed(7), sieves_needed(2),
                 lower_bound(), remove_sieve(1), add_sieve(1), gain_of_sieve(1), most_even_sieves(1),
                 evaluate_sieves(1), destination(0), destination(1), destination(2), yields()]
        answered = answers(told([*sifter([(3, 4), (5, 5)], [1]), *asked]))
        self.assertIs(type(answered), list)
        self.assertEqual({type(number) for number in answered}, {int})

    def test_sixty_calls(self):
        calls = [create()] + [add_size(99, 98), remove_last_size()] * 29 + [get_sizes()]
        self.assertEqual(ask(*calls), [[0]] + [[0], [0]] * 29 + [[0]])

    def test_nine_hundred_numbers(self):
        calls = [create()] + [add_size(1, 1)] * 10 + [set_sieves(*range(1, 13))] * 48 + [set_sieves(*range(1, 10))]
        self.assertEqual(len(calls), 60)
        self.assertEqual(ask(*calls)[11:], [OUTSIDE_LIMITS] * 48 + [[10]])


class HandedIn(unittest.TestCase):
    CALLS = [*sifter([(1, 2), (4, 3), (0, 5)], [1, 2]), set_size(0, 9, 9), remove_last_size(), get_sizes(),
             get_sieves(), get_classes(), misplaced(), purity(), best_sieves(1), set_sieves(7), best_sieves(9),
             apply_best_sieves(1), apply_best_sieves(9), sieves_needed(5), lower_bound(), remove_sieve(1),
             remove_sieve(1), add_sieve(1), add_sieve(1), add_sieve(9), gain_of_sieve(1), most_even_sieves(1),
             evaluate_sieves(1), evaluate_sieves(2, 1), destination(0), destination(9), yields()]

    def test_the_list_stands_afterwards_as_it_was(self):
        calls = told(self.CALLS)
        before = list(calls)
        answers(calls)
        self.assertEqual(calls, before)

    def test_the_list_is_not_changed_for_a_while_either(self):
        self.assertEqual(answers(Unchangeable(told(self.CALLS))), answers(told(self.CALLS)))

    def test_what_is_answered_is_a_new_list_each_time(self):
        first = answers(told(self.CALLS))
        expected = list(first)
        first.clear()
        self.assertEqual(answers(told(self.CALLS)), expected)

    def test_each_list_of_calls_begins_anew(self):
        ask(*sifter([(1, 2), (4, 3)], [1]))
        self.assertEqual(ask(get_sizes(), get_sieves()), [NO_SIFTER, NO_SIFTER])
        self.assertEqual(ask(create(), get_sizes(), get_sieves()), [[0], [0], [0]])


class NoSifterYet(unittest.TestCase):
    def test_every_call_but_create(self):
        right = [add_size(1, 1), remove_last_size(), set_size(0, 1, 1), get_sizes(), set_sieves(), get_sieves(),
                 get_classes(), misplaced(), purity(), best_sieves(0), apply_best_sieves(0), sieves_needed(0),
                 lower_bound(), add_sieve(1), remove_sieve(1), gain_of_sieve(1), most_even_sieves(0),
                 evaluate_sieves(), evaluate_sieves(1, 2), destination(0), yields()]
        self.assertEqual(ask(*right), [NO_SIFTER] * len(right))

    def test_ahead_of_all_other_checks(self):
        wrong = [add_size(100, 0), add_size(LARGEST, LARGEST), set_size(7, 1, 1), set_size(0, 100, 100), set_sieves(0),
                 set_sieves(2, 1), set_sieves(*range(12)), best_sieves(0), best_sieves(LARGEST),
                 apply_best_sieves(LARGEST), sieves_needed(LARGEST), add_sieve(0), add_sieve(LARGEST), remove_sieve(0),
                 remove_sieve(LARGEST), gain_of_sieve(0), gain_of_sieve(LARGEST), most_even_sieves(LARGEST),
                 evaluate_sieves(0), evaluate_sieves(2, 1), evaluate_sieves(*range(12)), destination(LARGEST)]
        self.assertEqual(ask(*wrong), [NO_SIFTER] * len(wrong))

    def test_a_call_ahead_of_create_leaves_nothing(self):
        calls = [add_size(1, 2), get_sizes(), create(), get_sizes(), add_size(3, 4), get_sizes()]
        self.assertEqual(ask(*calls), [NO_SIFTER, NO_SIFTER, [0], [0], [0], [1, 3, 4]])
        calls = [add_sieve(1), apply_best_sieves(0), create(), add_size(3, 4), add_size(5, 6), get_sieves()]
        self.assertEqual(ask(*calls), [NO_SIFTER, NO_SIFTER, [0], [0], [1], [0]])


class Create(unittest.TestCase):
    def test_a_new_sifter_is_empty(self):
        calls = [create(), get_sizes(), get_sieves(), get_classes(), misplaced()]
        self.assertEqual(ask(*calls), [[0], [0], [0], [1, 0, 0, 0], [0]])

    def test_it_replaces_an_existing_one(self):
        calls = [*sifter([(1, 2), (4, 3)], [1]), create(), get_sizes(), get_sieves(), add_size(5, 6), get_sizes()]
        self.assertEqual(ask(*calls)[-5:], [[0], [0], [0], [0], [1, 5, 6]])

    def test_the_sieves_do_not_come_back_with_the_sizes(self):
        calls = [*sifter([(1, 2), (4, 3)], [1]), create(), add_size(1, 2), add_size(4, 3), get_sieves(), misplaced()]
        self.assertEqual(ask(*calls)[-2:], [[0], [5]])


class FailedOperations(unittest.TestCase):
    LOOKS = [get_sizes(), get_sieves(), get_classes(), misplaced(), lower_bound(), yields()]

    def assert_refused(self, before, call, error):
        """The call is refused, and a look at everything shows the same ahead of it and behind it."""
        parts = ask(*before, *self.LOOKS, call, *self.LOOKS)[len(before):]
        self.assertEqual(parts[6], error)
        self.assertEqual(parts[7:], parts[:6])

    def test_with_some_sizes(self):
        before = sifter([(10, 1), (4, 4), (2, 9)], [1])
        for call, error in [
                (add_size(100, 5), OUTSIDE_LIMITS), (add_size(5, 100), OUTSIDE_LIMITS), (set_size(3, 5, 5), NOT_THERE),
                (set_size(0, 100, 5), OUTSIDE_LIMITS), (set_size(0, 5, 100), OUTSIDE_LIMITS),
                (set_sieves(3), OUTSIDE_LIMITS), (set_sieves(2, 3), OUTSIDE_LIMITS), (set_sieves(2, 1), OUTSIDE_LIMITS),
                (set_sieves(2, 2), OUTSIDE_LIMITS), (set_sieves(0), OUTSIDE_LIMITS), (best_sieves(3), OUTSIDE_LIMITS),
                (apply_best_sieves(3), OUTSIDE_LIMITS), (apply_best_sieves(LARGEST), OUTSIDE_LIMITS),
                (sieves_needed(6), NEVER_ENOUGH), (sieves_needed(0), NEVER_ENOUGH), (add_sieve(0), OUTSIDE_LIMITS),
                (add_sieve(1), ALREADY_THERE), (add_sieve(3), OUTSIDE_LIMITS), (add_sieve(LARGEST), OUTSIDE_LIMITS),
                (remove_sieve(0), NOT_THERE), (remove_sieve(2), NOT_THERE), (remove_sieve(LARGEST), NOT_THERE),
                (gain_of_sieve(0), OUTSIDE_LIMITS), (gain_of_sieve(3), OUTSIDE_LIMITS),
                (most_even_sieves(3), OUTSIDE_LIMITS), (evaluate_sieves(3), OUTSIDE_LIMITS),
                (evaluate_sieves(2, 1), OUTSIDE_LIMITS), (evaluate_sieves(2, 2), OUTSIDE_LIMITS),
                (destination(3), NOT_THERE), (destination(LARGEST), NOT_THERE)]:
            with self.subTest(call=call):
                self.assert_refused(before, call, error)

    def test_with_ten_sizes(self):
        before = sifter([(size, 9 - size) for size in range(10)], [1, 5, 9])
        self.assert_refused(before, add_size(1, 1), TOO_MANY_SIZES)
        self.assert_refused(before, add_size(1, 100), OUTSIDE_LIMITS)
        self.assert_refused(before, apply_best_sieves(10), OUTSIDE_LIMITS)
        self.assert_refused(before, add_sieve(10), OUTSIDE_LIMITS)
        self.assert_refused(before, add_sieve(9), ALREADY_THERE)
        self.assert_refused(before, remove_sieve(8), NOT_THERE)
        self.assert_refused(before, evaluate_sieves(*range(1, 11)), OUTSIDE_LIMITS)

    def test_with_no_sizes(self):
        for call, error in [
                (remove_last_size(), NOTHING_THERE), (purity(), NOTHING_THERE), (set_size(0, 1, 1), NOT_THERE),
                (set_sieves(1), OUTSIDE_LIMITS), (best_sieves(0), OUTSIDE_LIMITS),
                (apply_best_sieves(0), OUTSIDE_LIMITS), (add_sieve(0), OUTSIDE_LIMITS), (add_sieve(1), OUTSIDE_LIMITS),
                (remove_sieve(1), NOT_THERE), (gain_of_sieve(0), OUTSIDE_LIMITS), (gain_of_sieve(1), OUTSIDE_LIMITS),
                (most_even_sieves(0), OUTSIDE_LIMITS), (evaluate_sieves(1), OUTSIDE_LIMITS),
                (destination(0), NOT_THERE)]:
            with self.subTest(call=call):
                self.assert_refused([create()], call, error)

    def test_with_no_material(self):
        self.assert_refused(sifter([(0, 0), (0, 0)], [1]), purity(), NOTHING_THERE)


class Example(unittest.TestCase):
    def test_the_rows_of_the_document(self):
        rows = [
            (create(), [0]), (add_size(10, 1), [0]), (add_size(4, 4), [1]), (add_size(2, 9), [2]),
            (best_sieves(1), [7, 1]), (set_sieves(2), [7]), (get_classes(), [2, 2, 14, 5, 1, 2, 9]),
            (yields(), [14, 5, 16, 14]), (purity(), [0, 23, 30]), (evaluate_sieves(1), [7, 19]),
            (destination(2), [0]), (set_sieves(3), [-22])]
        self.assertEqual(ask(*[call for call, _ in rows]), [answered for _, answered in rows])

    def test_the_refused_row_leaves_the_sieve(self):
        self.assertEqual(ask_last(*sifter([(10, 1), (4, 4), (2, 9)], [2]), set_sieves(3), get_sieves()), [1, 2])


if __name__ == "__main__":
    unittest.main()
