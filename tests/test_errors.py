"""The errors -1, -2 and -7, their edges and order, with -6 behind them."""

import unittest

from tests.helper import A, B, BOTTOM, C, D, LARGEST, SEVEN_ATOMS, SIX_ATOMS, TOP, against, ask
from tests.helper import ask_last, ask_whole, both, can, drop, either, line, model, non, only, some
from tests.helper import under

# What is wrong wherever one concept is to stand.
NOT_A_CONCEPT = [
    [2], [3], [4], [5], [6], [7],
    [2, 4], [2, 5], [2, 8], [2, LARGEST],
    [6, 2, 0], [7, 2, 0], [6, 3, 0], [7, 7, 0], [6, LARGEST, 0], [7, LARGEST, 0],
    [6, 0], [6, 1], [7, 0], [7, 1],
    [8], [9], [100], [LARGEST], [8, 0], [LARGEST, 0],
    [3, 0], [4, 0], [3, 2, 0], [4, 2, 0], [3, 2, 0, 2], [4, 0, 5],
    [5, 8], [5, 2], [5, 2, 4], [5, 6, 0], [5, LARGEST],
    [3, 0, 8], [3, 8, 0], [4, 0, LARGEST], [4, 1, 3],
    [6, 0, 8], [7, 1, 2], [6, 0, 2, 4], [7, 0, 6, 2, 0], [6, 1, 7, 0], [6, 0, 3, 0],
    [3, 3, 0, 0], [3, 2, 0, 6, 0], [4, 6, 0, 2, 0],
]


class NotOneConcept(unittest.TestCase):

    def check(self, *concepts):
        """Check that can and model refuse these alike."""
        self.assertEqual(ask(can(*concepts), model(*concepts)), [-1, -1], concepts)

    def test_empty(self):
        self.check()

    def test_no_concept(self):
        for numbers in NOT_A_CONCEPT:
            self.check(numbers)

    def test_one_number_too_many(self):
        for concept in (TOP, BOTTOM, A, non(A), both(A, B), either(A, TOP), some(0, A), only(1, B)):
            for extra in (0, 1, 2, 8, LARGEST):
                self.check(concept, [extra])

    def test_one_number_too_few(self):
        for concept in (A, non(A), both(A, B), either(A, TOP), some(0, A), only(1, B), SIX_ATOMS):
            self.assertEqual(ask(can(concept)), [1], concept)
            self.assertGreater(ask_whole(model(concept))[0][0], 0, concept)
            self.check(concept[:-1])

    def test_two_and_three_concepts(self):
        self.check(A, B)
        self.check(TOP, TOP)
        self.check(A, B, C)

    def test_last_names_and_roles_are_allowed(self):
        self.assertEqual(ask(can([2, 3]), can([6, 1, 0]), can([7, 1, 1])), [1, 1, 1])
        told = ask_whole(model([2, 3]), model([6, 1, 0]), model([7, 1, 1]))
        self.assertEqual(told, [[1, 8, 0], [2, 0, 1, 1, 1, 0, 0], [1, 0, 0]])


class NotTwoConcepts(unittest.TestCase):

    def refusal(self, *concepts):
        """Return the answer of line, under and against, which are to be refused alike."""
        told = ask(line(*concepts), under(*concepts), against(*concepts))
        self.assertEqual(told, [told[0]] * 3, concepts)
        return told[0]

    def test_empty(self):
        self.assertEqual(self.refusal(), -1)

    def test_one_concept(self):
        for concept in (TOP, BOTTOM, A, non(A), both(A, B), either(A, B), some(0, A), only(1, B)):
            self.assertEqual(self.refusal(concept), -1)

    def test_three_concepts(self):
        self.assertEqual(self.refusal(A, B, C), -1)
        self.assertEqual(self.refusal(TOP, TOP, TOP), -1)
        self.assertEqual(self.refusal(A, B, TOP), -1)

    def test_wrong_first_or_second_concept(self):
        for numbers in NOT_A_CONCEPT:
            self.assertEqual(self.refusal(A, numbers), -1)
            self.assertEqual(self.refusal(numbers), -1)

    def test_wrong_first_concept_with_a_second(self):
        for numbers in ([2, 4], [6, 2, 0], [7, 2, 0], [8], [LARGEST], [5, 2, 4], [6, 0, 8]):
            self.assertEqual(self.refusal(numbers, A), -1)

    def test_one_number_too_few(self):
        for second in (A, non(A), both(A, B), either(A, TOP), some(0, A), only(1, B)):
            self.assertIn(ask_last(under(A, second)), (0, 1))
            self.assertEqual(self.refusal(A, second[:-1]), -1)

    def test_one_number_too_many(self):
        for extra in (0, 1, 2, 7, 8, LARGEST):
            self.assertEqual(self.refusal(A, B, [extra]), -1)
            self.assertEqual(self.refusal(some(0, A), both(A, B), [extra]), -1)


class TooManyAxioms(unittest.TestCase):

    def test_six_and_a_seventh(self):
        told = ask(*[line(A, B)] * 7)
        self.assertEqual(told, [0, 1, 2, 3, 4, 5, -7])

    def test_seventh_without_atoms(self):
        self.assertEqual(ask_last(*[line(TOP, TOP)] * 7), -7)

    def test_room_again_after_drop(self):
        told = ask(*[line(A, B)] * 6, drop(2), line(B, C), line(C, D), under(A, C))
        self.assertEqual(told, [0, 1, 2, 3, 4, 5, 5, 5, -7, 1])

    def test_questions_with_six_axioms(self):
        told = ask(*[line(A, B)] * 6, can(non(B)), under(A, B), under(B, A))
        self.assertEqual(told[6:], [1, 1, 0])

    def test_wrong_numbers_come_first(self):
        full = [line(A, B)] * 6
        for numbers in ([], A, [2, 0, 2, 4], [2, 0, 2, 1, 0], [8]):
            self.assertEqual(ask_last(*full, line(numbers)), -1)


class TooManyAtoms(unittest.TestCase):

    def test_can(self):
        self.assertEqual(ask(can(SIX_ATOMS), can(SEVEN_ATOMS)), [1, -7])

    def test_line(self):
        told = ask(line(SEVEN_ATOMS, A), line(A, SEVEN_ATOMS), line(SIX_ATOMS, A), line(A, A))
        self.assertEqual(told, [-7, -7, 0, 1])
        self.assertEqual(ask(line(SIX_ATOMS, only(0, A)), line(A, SIX_ATOMS)), [-7, 0])

    def test_under(self):
        told = ask(under(SIX_ATOMS, A), under(A, SIX_ATOMS), under(SIX_ATOMS, only(0, A)))
        self.assertEqual(told, [1, 0, -7])
        self.assertEqual(ask(under(SEVEN_ATOMS, A), under(A, SEVEN_ATOMS)), [-7, -7])

    def test_model(self):
        told = ask_whole(model(SIX_ATOMS), model(SEVEN_ATOMS))
        self.assertGreater(told[0][0], 1)
        self.assertEqual(told[1], [-7])

    def test_against(self):
        told = ask_whole(against(SIX_ATOMS, non(A)), against(BOTTOM, SIX_ATOMS),
                         against(SIX_ATOMS, only(0, A)), against(only(0, A), SIX_ATOMS))
        self.assertGreater(told[0][0], 1)
        self.assertEqual(told[1:], [[-6], [-7], [-7]])
        self.assertEqual(ask(against(SEVEN_ATOMS, A), against(A, SEVEN_ATOMS)), [-7, -7])

    def test_model_and_against_with_axioms(self):
        axioms = [line(both(A, B), both(C, D)), line(some(0, A), TOP)]
        two = both(only(0, A), only(1, A))
        told = ask_whole(*axioms, model(only(0, A)), model(two), against(only(1, A), some(0, A)),
                         against(only(1, A), only(0, A)), drop(1), model(two), against(two, A))
        self.assertEqual([answer[0] for answer in told], [0, 1, 1, -7, 1, -7, 1, 1, 1])

    def test_axioms_count(self):
        axiom = line(both(A, B), both(C, D))
        two = both(some(0, A), only(1, B))
        three = both(two, only(0, B))
        told = ask(
            axiom, can(two), can(three), under(TOP, two), under(three, TOP),
            line(two, TOP), can(TOP), can(only(0, B)), line(TOP, only(0, B)), under(A, only(0, B)),
        )
        self.assertEqual(told, [0, 1, -7, 0, -7, 1, 1, -7, -7, -7])

    def test_both_concepts_of_an_axiom_count(self):
        self.assertEqual(ask(line(A, both(B, C)), can(both(D, both(some(0, A), some(1, A)))),
                             can(both(D, both(some(0, A), both(some(1, A), only(0, A)))))),
                         [0, 1, -7])
        self.assertEqual(ask(line(both(B, C), A), can(both(D, both(some(0, A), some(1, A)))),
                             can(both(D, both(some(0, A), both(some(1, A), only(0, A)))))),
                         [0, 1, -7])

    def test_all_axioms_count(self):
        axioms = [line(A, some(0, A)), line(B, some(1, B)), line(C, C)]
        told = ask(*axioms, can(D), can(both(D, some(1, A))), line(D, TOP), can(some(1, A)))
        self.assertEqual(told, [0, 1, 2, 1, -7, 3, -7])

    def test_dropped_axioms_count_no_more(self):
        told = ask(line(SIX_ATOMS, TOP), can(only(0, A)), drop(0), can(only(0, A)))
        self.assertEqual(told, [0, -7, 0, 1])

    def test_questions_do_not_count_afterwards(self):
        told = ask(can(SIX_ATOMS), can(only(0, B)), under(SIX_ATOMS, A), line(A, only(1, B)))
        self.assertEqual(told, [1, 1, 1, 0])

    def test_equal_atoms_count_once(self):
        restrictions = both(some(0, A), both(some(0, A), some(0, A)))
        told = ask(line(SIX_ATOMS, A), can(restrictions), under(restrictions, both(B, B)))
        self.assertEqual(told, [0, 1, 0])
        told = ask(line(A, B), line(B, A), line(C, D), line(D, C),
                   can(both(some(0, B), some(1, B))), can(both(some(0, B), some(0, D))))
        self.assertEqual(told, [0, 1, 2, 3, 1, 1])

    def test_other_role_other_construct_other_part_is_another_atom(self):
        four = line(both(A, B), both(C, D))
        first = some(0, A)
        for second in (some(1, A), only(0, A), some(0, B), some(0, non(non(A)))):
            for third in (only(1, A), some(1, B)):
                self.assertEqual(ask_last(four, can(either(first, second))), 1)
                self.assertEqual(ask_last(four, can(either(first, either(second, third)))), -7)

    def test_inside_of_restrictions_counts(self):
        for restrict in (some, only):
            five = A
            for depth in range(5):
                five = restrict(depth % 2, five)
            six = restrict(1, five)
            self.assertEqual(ask(can(five), can(six)), [1, -7])
            self.assertEqual(ask(under(five, A), under(A, six)), [0, -7])
            self.assertEqual(ask(line(five, B), line(six, A), line(five, A)), [-7, -7, 0])

    def test_name_inside_a_restriction_counts(self):
        axiom = line(both(A, B), both(C, some(0, A)))
        told = ask(axiom, can(some(1, A)), can(some(1, D)), can(both(some(1, D), only(1, D))))
        self.assertEqual(told, [0, 1, 1, -7])

    def test_restrictions_without_names(self):
        six = TOP
        for depth in range(6):
            six = some(0, six)
        self.assertEqual(ask(can(six), can(some(0, six)), can(non(six))), [1, -7, 1])

    def test_top_and_bottom_are_no_atoms(self):
        told = ask(line(SIX_ATOMS, TOP), can(both(TOP, either(BOTTOM, non(BOTTOM)))))
        self.assertEqual(told, [0, 1])

    def test_wrong_numbers_come_first(self):
        self.assertEqual(ask(can(SEVEN_ATOMS, [0])), [-1])
        self.assertEqual(ask(can(SEVEN_ATOMS[:-1])), [-1])
        self.assertEqual(ask(can(SEVEN_ATOMS[:-1] + [4])), [-1])
        self.assertEqual(ask(line(SEVEN_ATOMS), under(SEVEN_ATOMS)), [-1, -1])
        self.assertEqual(ask(line(SEVEN_ATOMS, [8]), under(SEVEN_ATOMS, [8])), [-1, -1])
        self.assertEqual(ask(line(SEVEN_ATOMS, A, B), under(SEVEN_ATOMS, A, B)), [-1, -1])
        self.assertEqual(ask(line(SIX_ATOMS, A), can(only(0, A), [2])), [0, -1])
        self.assertEqual(ask(model(SEVEN_ATOMS, [0]), model(SEVEN_ATOMS[:-1])), [-1, -1])
        self.assertEqual(ask(model(SEVEN_ATOMS[:-1] + [4]), model(SEVEN_ATOMS, A)), [-1, -1])
        self.assertEqual(ask(against(SEVEN_ATOMS), against(SEVEN_ATOMS, [8])), [-1, -1])
        self.assertEqual(ask(against(SEVEN_ATOMS, A, B), against(SEVEN_ATOMS, [2])), [-1, -1])

    def test_no_model_comes_last(self):
        never = both(BOTTOM, SEVEN_ATOMS)
        self.assertEqual(ask(model(never), model(both(BOTTOM, SIX_ATOMS))), [-7, -6])
        self.assertEqual(ask(against(never, A), against(A, either(TOP, SEVEN_ATOMS))), [-7, -7])
        self.assertEqual(ask(against(BOTTOM, SIX_ATOMS), against(A, either(TOP, SIX_ATOMS))), [-6, -6])
        none = line(TOP, BOTTOM)
        self.assertEqual(ask(none, model(SEVEN_ATOMS), model(SIX_ATOMS), model([3] + A)), [0, -7, -6, -1])
        self.assertEqual(ask(none, against(SEVEN_ATOMS, A), against(SIX_ATOMS, A), against(A)),
                         [0, -7, -6, -1])
        self.assertEqual(ask(none, model(), model(BOTTOM, [8]), against(), against(BOTTOM, TOP, TOP)),
                         [0, -1, -1, -1, -1])
        full = line(both(SIX_ATOMS, BOTTOM), A)
        self.assertEqual(ask(full, model(both(BOTTOM, only(0, A))), model(BOTTOM), model(BOTTOM, A)),
                         [0, -7, -6, -1])


class NoSuchAxiom(unittest.TestCase):

    def test_none_at_all(self):
        self.assertEqual(ask(drop(0), drop(1), drop(LARGEST)), [-2, -2, -2])

    def test_edge(self):
        told = ask(line(A, B), line(B, C), drop(2), drop(3), drop(LARGEST), drop(1), drop(1))
        self.assertEqual(told, [0, 1, -2, -2, -2, 1, -2])

    def test_last_one_gone(self):
        self.assertEqual(ask(line(A, B), drop(0), drop(0)), [0, 0, -2])

    def test_after_a_refused_line(self):
        self.assertEqual(ask(line(A), drop(0)), [-1, -2])

    def test_six(self):
        told = ask(*[line(A, B)] * 6, drop(6), drop(5), drop(5), drop(4))
        self.assertEqual(told[6:], [-2, 5, -2, 4])


class Drop(unittest.TestCase):

    def test_indexes_behind_decrease(self):
        told = ask(
            line(A, B), line(B, C), line(C, D), drop(0),
            under(A, B), under(B, C), under(C, D), drop(1),
            under(B, C), under(C, D), drop(1), drop(0), under(B, C),
        )
        self.assertEqual(told, [0, 1, 2, 2, 0, 1, 1, 1, 1, 0, -2, 0, 0])

    def test_middle_and_last(self):
        told = ask(
            line(A, B), line(B, C), line(C, D), drop(1),
            under(A, B), under(B, C), under(C, D), drop(1), under(A, B), under(C, D),
        )
        self.assertEqual(told, [0, 1, 2, 2, 1, 0, 1, 1, 1, 0])

    def test_equal_axioms_go_one_at_a_time(self):
        told = ask(line(A, B), line(A, B), drop(0), under(A, B), drop(0), under(A, B))
        self.assertEqual(told, [0, 1, 1, 1, 0, 0])

    def test_line_after_drop(self):
        told = ask(line(A, B), line(B, C), drop(0), line(C, D), under(B, D), under(A, B), drop(1),
                   under(C, D), under(B, C))
        self.assertEqual(told, [0, 1, 1, 1, 1, 0, 1, 0, 1])


if __name__ == "__main__":
    unittest.main()
