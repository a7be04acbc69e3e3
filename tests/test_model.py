"""Point 2 and the reported model: what model answers, number by number.

Behind an answer it is told how it comes about: the atoms by their places, and kinds as sums of
2^k for each atom k that holds.
"""

import itertools
import unittest

from conceptaxioms.models import answers
from tests.helper import A, B, BOTTOM, C, D, TOP, ask_all, ask_all_whole, ask_last_whole, ask_with
from tests.helper import both, can, either, having, holds, line, model, non, only, read_model, some


class ModelCase(unittest.TestCase):

    def check(self, expected, concept, axioms=()):
        told = ask_with(axioms, model(concept))
        self.assertEqual(told, expected, f"model {concept} with {axioms}")


class OneElement(ModelCase):

    def test_without_atoms(self):
        self.check([1, 0, 0], TOP)
        self.check([1, 0, 0], non(BOTTOM))
        self.assertEqual(answers([5, 1, 0]), [3, 1, 0, 0])

    def test_each_name(self):
        for number, name in enumerate([A, B, C, D]):
            self.check([1, 1 << number, 0], name)
            self.check([1, 0, 0], non(name))

    def test_names_are_told_as_a_sum(self):
        self.check([1, 3, 0], both(A, B))
        self.check([1, 10, 0], both(B, D))
        self.check([1, 10, 0], both(D, B))
        self.check([1, 15, 0], both(both(D, C), both(B, A)))
        self.check([1, 5, 0], both(both(A, non(B)), both(C, non(D))))

    def test_axioms_bring_names(self):
        self.check([1, 3, 0], A, [(A, B)])
        self.check([1, 2, 0], B, [(A, B)])
        self.check([1, 13, 0], D, [(D, both(A, C))])
        self.check([1, 0, 0], non(B), [(A, B)])
        self.check([1, 8, 0], TOP, [(TOP, D)])

    def test_restrictions_that_demand_nothing(self):
        for role in (0, 1):
            self.check([1, 0, 0], only(role, A))
            self.check([1, 0, 0], only(role, BOTTOM))
            self.check([1, 0, 0], non(some(role, A)))
            self.check([1, 1, 0], both(A, non(some(role, A))))
            self.check([1, 1, 0], both(A, only(role, non(A))))


class Demands(ModelCase):

    def test_a_six_that_holds(self):
        # some 0, A 1. The first element has kind 1, the other one 2.
        for role in (0, 1):
            self.check([2, 0, 1, role, 1, 1, 0], some(role, A))
            self.check([2, 0, 1, role, 1, 8, 0], some(role, D))

    def test_a_seven_that_does_not_hold(self):
        # only 0, A 1. Kind 0 comes first and supports itself, as it is without A.
        for role in (0, 1):
            self.check([1, 0, 1, role, 0], non(only(role, A)))
        # A 0, only 1. Kind 0 is gone by the axiom: kinds 1 and 2, where 2 is without A.
        for role in (0, 1):
            self.check([2, 1, 1, role, 1, 0, 0], non(only(role, A)), [(non(A), only(role, A))])

    def test_a_seven_that_does_not_hold_leads_to_an_element_without_the_concept(self):
        # A 0, only 1, B 2. The first element has kind 1; 0 is gone, so 2 is the first without A.
        axioms = [(non(A), only(0, A)), (non(A), B)]
        self.check([2, 1, 1, 0, 1, 2, 0], both(A, non(only(0, A))), axioms)

    def test_a_seven_that_holds_demands_nothing_for_itself(self):
        self.check([1, 1, 0], both(A, only(1, B)))
        # only 0, B 1, some 2. The first element has kind 5, so only kinds with B are permitted.
        self.check([2, 0, 1, 1, 1, 2, 0], both(only(1, B), some(1, TOP)))

    def test_a_six_that_does_not_hold_permits_none_with_the_concept(self):
        # B 0, A 1, C 2, first some 3, second some 4. Element 0 has kind 8; 3 comes ahead of 5.
        axioms = [(B, either(A, C))]
        self.check([2, 0, 1, 0, 1, 3, 0], some(0, B), axioms)
        self.check([2, 0, 1, 0, 1, 6, 0], both(some(0, B), non(some(0, A))), axioms)
        self.check([2, 0, 1, 0, 1, 3, 0], both(some(0, B), non(some(1, A))), axioms)

    def test_a_seven_that_holds_permits_none_without_the_concept(self):
        # B 0, A 1, C 2, some 3, only 4. Kind 24 leads to 5 or, if C need not be, to 3. In these
        # the only does not hold: they lead to kind 0, which is without C and supports itself.
        axioms = [(B, either(A, C))]
        self.check(
            [3, 0, 1, 1, 1, 6, 1, 1, 2, 0, 1, 1, 2], both(some(1, B), only(1, C)), axioms,
        )
        self.check(
            [3, 0, 1, 1, 1, 3, 1, 0, 2, 0, 1, 0, 2], both(some(1, B), only(0, C)), axioms,
        )

    def test_the_first_possible_one_that_supports(self):
        # A 0, B 1, C 2. The first kind with A is 1 unless the axioms rule it out.
        known = (BOTTOM, both(A, both(B, C)))
        self.check([2, 0, 1, 0, 1, 1, 0], some(0, A), [known])
        self.check([2, 0, 1, 0, 1, 3, 0], some(0, A), [known, (A, either(B, C))])
        self.check([2, 0, 1, 0, 1, 5, 0], some(0, A), [known, (A, C)])
        # Kind 1 has no B for its role 1, so it is ruled out by what it lacks.
        self.check(
            [3, 0, 1, 0, 1, 1, 1, 1, 2, 2, 0], some(0, A), [known, (A, some(1, B))],
        )
        self.check(
            [2, 0, 1, 0, 1, 1, 1, 1, 1], some(0, A), [(A, some(1, A)), known],
        )

    def test_the_first_possible_one_with_the_concept(self):
        # A 0, B 1, C 2: kind 1 is ruled out for want of a related element, so 4 comes first.
        axioms = [(BOTTOM, both(A, both(B, C))), (A, some(0, BOTTOM))]
        self.check([1, 4, 0], either(A, C), axioms)
        self.check([1, 2, 0], either(A, B), axioms)
        self.check([1, 6, 0], either(A, both(B, C)), axioms)


class SameElement(ModelCase):

    def test_related_to_itself(self):
        for role in (0, 1):
            # A 0, some 1: kind 3 supports itself.
            self.check([1, 1, 1, role, 0], A, [(A, some(role, A))])
            self.check([1, 8, 1, role, 0], D, [(TOP, some(role, D)), (TOP, D)])
            # some 0: kind 1 is the only possible one.
            self.check([1, 0, 1, role, 0], TOP, [(TOP, some(role, TOP))])

    def test_by_the_same_role_is_told_once(self):
        for role in (0, 1):
            twice = both(some(role, A), some(role, non(non(A))))
            self.check([2, 0, 1, role, 1, 1, 0], twice)
            self.check([1, 0, 1, role, 0], both(non(only(role, A)), non(only(role, B))))
            self.check([1, 1, 1, role, 0], A, [(A, some(role, A)), (A, some(role, both(A, A)))])
            # A 0, some A 1, some TOP 2: kind 7 leads to itself, and to 0 as the first of all.
            self.check([2, 1, 2, role, 0, role, 1, 0, 0], A, [(A, some(role, A)), (A, some(role, TOP))])

    def test_by_both_roles_is_told_twice(self):
        self.check([2, 0, 2, 0, 1, 1, 1, 1, 0], both(some(0, A), some(1, A)))
        self.check([2, 0, 2, 1, 1, 0, 1, 1, 0], both(some(1, A), some(0, A)))
        self.check([1, 0, 2, 1, 0, 0, 0], both(non(only(1, A)), non(only(0, A))))
        self.check([1, 1, 2, 0, 0, 1, 0], A, [(A, some(0, A)), (A, some(1, A))])

    def test_is_told_where_it_occurs_first(self):
        again = some(0, non(non(A)))
        self.check([2, 0, 2, 0, 1, 1, 1, 1, 0], both(some(0, A), both(some(1, A), again)))
        self.check([2, 0, 2, 1, 1, 0, 1, 1, 0], both(some(1, A), both(some(0, A), again)))
        # some A 0, A 1, some B 2, B 3, some not not A 4.
        self.check(
            [3, 0, 2, 0, 1, 0, 2, 1, 0, 2, 0],
            both(some(0, A), both(some(0, B), again)),
        )

    def test_an_earlier_element_is_met_again(self):
        # A 0, some B 1, B 2, some A 3: kinds 3 and 12 lead to each other.
        axioms = [(A, some(0, B)), (B, some(1, A)), (A, non(B))]
        self.check([2, 1, 1, 0, 1, 2, 1, 1, 0], A, axioms)
        # A 0, some A 1, B 2: kind 6 leads to 3, and 3 to itself.
        self.check([2, 2, 1, 0, 1, 1, 1, 0, 1], both(B, non(A)), [(TOP, some(0, A))])

    def test_an_element_of_the_same_names_is_another_one(self):
        # some 0 some 1, some 1 A 1, A 2. Kinds 1 and 2 have no name either of them.
        self.check([3, 0, 1, 0, 1, 0, 1, 1, 2, 1, 0], some(0, some(1, A)))


class OrderOfElements(ModelCase):

    def test_in_a_row(self):
        self.check(
            [4, 0, 1, 0, 1, 0, 1, 1, 2, 0, 1, 0, 3, 4, 0],
            some(0, some(1, some(0, C))),
        )

    def test_two_demands_in_the_order_of_the_atoms(self):
        self.check([3, 0, 2, 0, 1, 0, 2, 1, 0, 2, 0], both(some(0, A), some(0, B)))
        self.check([3, 0, 2, 0, 1, 0, 2, 2, 0, 1, 0], both(some(0, B), some(0, A)))
        self.check([3, 0, 2, 1, 1, 0, 2, 2, 0, 1, 0], both(some(1, B), some(0, A)))

    def test_each_element_is_done_ahead_of_the_next(self):
        # some some 0, some A 1, A 2, some B 3, B 4. Kinds 9, 2, 16 and at last 4.
        self.check(
            [4, 0, 2, 0, 1, 0, 2, 0, 1, 0, 3, 2, 0, 1, 0],
            both(some(0, some(0, A)), some(0, B)),
        )

    def test_six_and_seven_in_the_order_of_the_atoms(self):
        # some 0, A 1, only 2: kind 1 leads to 2, which has A, then to 0, which is without it. In
        # these two the only does not hold, so both lead to 0.
        self.check(
            [3, 0, 2, 0, 1, 0, 2, 1, 1, 0, 2, 0, 1, 0, 2], both(some(0, A), non(only(0, A))),
        )
        # only 0, A 1, some 2: kind 4 leads to 0 first and then to 2.
        self.check(
            [3, 0, 2, 0, 1, 0, 2, 0, 1, 0, 1, 1, 1, 0, 1], both(non(only(0, A)), some(0, A)),
        )


class OrderOfAtoms(ModelCase):

    def test_within_the_concept(self):
        self.check([1, 1, 0], either(A, B))
        self.check([1, 2, 0], either(B, A))
        self.check([1, 4, 0], either(either(C, B), A))
        self.check([1, 8, 0], either(either(D, A), either(B, C)))
        self.check([1, 2, 0], either(both(B, TOP), either(A, B)))

    def test_a_restriction_comes_ahead_of_what_is_inside(self):
        self.check([2, 0, 1, 0, 1, 1, 0], either(some(0, A), A))
        self.check([1, 1, 0], either(A, some(0, A)))
        self.check([1, 2, 0], either(either(B, some(0, A)), A))
        self.check([2, 0, 1, 1, 1, 1, 0], either(either(some(1, A), A), B))

    def test_axioms_come_ahead_of_the_concept(self):
        self.check([1, 1, 0], either(A, B))
        self.check([1, 2, 0], either(A, B), [(B, TOP)])
        self.check([1, 2, 0], either(A, B), [(BOTTOM, B)])
        self.check([1, 1, 0], either(B, A), [(A, TOP)])

    def test_axioms_in_their_order(self):
        self.check([1, 2, 0], either(A, B), [(B, TOP), (A, TOP)])
        self.check([1, 1, 0], either(A, B), [(A, TOP), (B, TOP)])
        self.check([1, 8, 0], either(either(A, B), either(C, D)), [(D, D), (C, C), (B, B)])

    def test_first_concept_of_an_axiom_ahead_of_its_second(self):
        self.check([1, 1, 0], either(B, A), [(both(A, BOTTOM), B)])
        self.check([1, 2, 0], either(A, B), [(both(B, BOTTOM), A)])

    def test_second_concept_of_an_axiom_ahead_of_the_next_axiom(self):
        self.check([1, 4, 0], either(either(A, B), C), [(BOTTOM, C), (B, TOP)])
        self.check([1, 2, 0], either(either(A, B), C), [(BOTTOM, B), (C, TOP)])

    def test_dropped_axioms_count_no_more(self):
        told = ask_last_whole(line(B, TOP), line(A, TOP), [2, 0], model(either(B, A)))
        self.assertEqual(told, [1, 1, 0])
        told = ask_last_whole(line(B, TOP), [0], model(either(A, B)))
        self.assertEqual(told, [1, 1, 0])

    def test_questions_ahead_leave_no_atoms(self):
        told = ask_last_whole(model(either(B, A)), can(B), model(either(A, B)))
        self.assertEqual(told, [1, 1, 0])


class NoModel(ModelCase):
    """The error -6."""

    def test_without_axioms(self):
        for concept in (
            BOTTOM, non(TOP), both(A, non(A)), some(0, BOTTOM), non(only(1, TOP)),
            both(some(0, A), only(0, non(A))), some(1, some(0, both(B, non(B)))),
            non(only(0, only(1, TOP))),
        ):
            self.check([-6], concept)

    def test_with_axioms(self):
        self.check([-6], A, [(A, BOTTOM)])
        self.check([-6], both(A, non(B)), [(A, B)])
        self.check([-6], A, [(A, some(0, B)), (B, BOTTOM)])
        self.check([-6], A, [(A, some(0, B)), (A, only(0, non(B)))])
        self.check([-6], some(1, A), [(A, B), (B, non(A))])
        self.check([-6], BOTTOM, [(A, B)])
        self.check([1, 0, 0], non(A), [(A, BOTTOM)])
        self.check([1, 2, 0], B, [(A, BOTTOM)])

    def test_axioms_without_any_model(self):
        for axioms in (
            [(TOP, BOTTOM)], [(TOP, A), (A, BOTTOM)], [(TOP, some(0, A)), (A, BOTTOM)],
            [(TOP, non(only(1, A))), (TOP, A)],
        ):
            for concept in (TOP, BOTTOM, A, non(A), only(0, BOTTOM), D):
                self.check([-6], concept, axioms)

    def test_is_the_code_alone(self):
        self.assertEqual(answers([5, 1, 1, 5, 1, 0]), [1, -6, 3, 1, 0, 0])


class HoldsInTheAnswer(unittest.TestCase):
    """Point 2 looked up in the answer itself, whatever model it is."""

    SMALL = [A, non(B), both(A, non(B)), either(non(A), B), TOP]
    AXIOMS = [
        [],
        [(A, B)],
        [(A, some(0, non(A)))],
        [(TOP, some(0, A)), (A, some(1, non(A)))],
        [(A, non(only(0, A))), (non(A), only(1, A))],
        [(TOP, either(A, some(1, B))), (B, only(1, A))],
        [(non(only(0, B)), A), (A, some(0, non(B)))],
        [(some(0, TOP), some(1, B)), (some(1, TOP), some(0, non(B)))],
        [(A, some(0, some(1, B))), (B, non(A)), (some(1, B), non(A))],
        [(TOP, A), (some(0, A), BOTTOM)],
        [(TOP, some(0, A)), (TOP, only(0, B)), (both(A, B), BOTTOM)],
    ]

    def concepts(self):
        restricted = []
        for role, small in itertools.product((0, 1), self.SMALL):
            restricted += [some(role, small), only(role, small)]
        restricted += [non(concept) for concept in restricted]
        deep = []
        for role, inner in itertools.product((0, 1), restricted):
            deep += [some(role, inner), non(only(role, inner)), both(A, only(role, inner))]
        pairs = [both(first, second) for first, second in zip(restricted, restricted[3:])]
        return self.SMALL + restricted + deep + pairs

    def test_axioms_hold_and_the_first_element_has_the_concept(self):
        concepts = self.concepts()
        sizes = []
        for axioms in self.AXIOMS:
            possible = ask_all(axioms, [can(concept) for concept in concepts])
            told = ask_all_whole(axioms, [model(concept) for concept in concepts])
            for concept, found, answer in zip(concepts, possible, told):
                if found != 1:
                    self.assertEqual(answer, [-6 if found == 0 else found], (axioms, concept))
                    continue
                elements = read_model(answer)
                self.assertTrue(having(concept, elements)[0], (axioms, concept, answer))
                for axiom in axioms:
                    self.assertTrue(holds(axiom, elements), (axiom, concept, answer))
                sizes.append(len(elements))
        # So that the check is not made on answers of one element alone.
        self.assertGreaterEqual(max(sizes), 4)
        self.assertGreater(len([size for size in sizes if size > 2]), 200)

    def test_no_relation_twice_and_no_names_from_nowhere(self):
        concepts = self.concepts()
        for axioms in self.AXIOMS:
            told = ask_all_whole(axioms, [model(concept) for concept in concepts])
            for concept, answer in zip(concepts, told):
                if answer[0] < 0:
                    continue
                elements = read_model(answer)
                for names_sum, relations in elements:
                    self.assertEqual(len(set(relations)), len(relations), (axioms, concept))
                    # Neither axioms nor concepts here speak of the names 2 and 3.
                    self.assertLess(names_sum, 4, (axioms, concept))

    def test_names_that_occur_nowhere_are_had_by_no_element(self):
        self.assertEqual(ask_last_whole(model(some(0, TOP))), [2, 0, 1, 0, 1, 0, 0])
        self.assertEqual(
            ask_last_whole(line(TOP, some(1, C)), model(B)),
            [2, 2, 1, 1, 1, 4, 1, 1, 1],
        )


if __name__ == "__main__":
    unittest.main()
