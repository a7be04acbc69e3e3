"""Point 1: can tells whether a concept has an element in some model of the axioms."""

import unittest

from tests.helper import A, B, BOTTOM, C, D, TOP
from tests.helper import ask, ask_last, both, can, drop, either, line, lines, non, only, some


class CanCase(unittest.TestCase):

    def check(self, expected, concept, axioms=()):
        told = ask_last(*lines(axioms), can(concept))
        self.assertEqual(told, expected, f"can {concept} with {axioms}")


class WithoutAxioms(CanCase):

    def test_constructs(self):
        for concept in (
            TOP, A, B, C, D, non(BOTTOM), non(A), both(A, B), both(TOP, A), either(A, non(A)),
            either(BOTTOM, A), either(A, BOTTOM), both(either(A, B), non(A)), non(both(A, B)),
            non(both(A, BOTTOM)), both(both(A, B), both(C, non(D))),
        ):
            self.check(1, concept)

    def test_constructs_without_an_element(self):
        for concept in (
            BOTTOM, non(TOP), both(A, non(A)), both(non(A), A), both(A, BOTTOM), both(BOTTOM, A),
            either(BOTTOM, BOTTOM), non(either(A, non(A))), non(either(TOP, A)), non(non(BOTTOM)),
            both(either(A, B), both(non(A), non(B))),
        ):
            self.check(0, concept)

    def test_restrictions(self):
        for role in (0, 1):
            for concept in (
                some(role, TOP), some(role, A), some(role, non(A)), only(role, TOP),
                only(role, A), only(role, BOTTOM), non(some(role, TOP)), non(only(role, BOTTOM)),
                both(some(role, A), some(role, non(A))), both(some(role, A), only(role, B)),
                both(only(role, A), only(role, non(A))), both(A, some(role, non(A))),
                both(non(some(role, A)), some(role, B)), both(non(only(role, A)), some(role, A)),
            ):
                self.check(1, concept)

    def test_restrictions_without_an_element(self):
        for role in (0, 1):
            for concept in (
                some(role, BOTTOM), non(only(role, TOP)), some(role, both(A, non(A))),
                both(some(role, A), only(role, non(A))), both(some(role, A), only(role, BOTTOM)),
                both(some(role, both(A, B)), non(some(role, A))),
                both(only(role, A), non(only(role, either(A, B)))),
                both(some(role, TOP), both(only(role, A), only(role, non(A)))),
                both(non(only(role, A)), non(some(role, non(A)))),
                both(non(some(role, TOP)), non(only(role, A))),
                both(only(role, BOTTOM), non(only(role, A))),
            ):
                self.check(0, concept)

    def test_roles_are_apart(self):
        for role in (0, 1):
            other = 1 - role
            self.check(1, both(some(role, A), only(other, non(A))))
            self.check(1, both(some(role, A), non(some(other, A))))
            self.check(1, both(non(only(role, A)), only(other, A)))
            self.check(1, both(some(role, TOP), only(other, BOTTOM)))


class WithinRestrictions(CanCase):

    def test_same_role(self):
        for role in (0, 1):
            deep = some(role, some(role, A))
            self.check(1, deep)
            self.check(0, both(deep, only(role, only(role, non(A)))))
            self.check(0, both(deep, only(role, only(role, BOTTOM))))
            self.check(1, both(deep, only(role, non(A))))
            self.check(0, some(role, some(role, BOTTOM)))
            self.check(1, some(role, only(role, BOTTOM)))
            self.check(1, only(role, some(role, BOTTOM)))
            self.check(0, both(some(role, TOP), only(role, some(role, BOTTOM))))

    def test_both_roles(self):
        for role in (0, 1):
            other = 1 - role
            deep = some(role, some(other, A))
            self.check(1, deep)
            self.check(0, both(deep, only(role, only(other, non(A)))))
            self.check(1, both(deep, only(role, only(role, non(A)))))
            self.check(1, both(deep, only(other, only(role, non(A)))))
            self.check(0, some(role, some(other, BOTTOM)))
            self.check(1, some(role, only(other, BOTTOM)))
            self.check(0, both(only(role, some(other, A)), some(role, only(other, non(A)))))
            self.check(1, both(only(other, some(role, A)), some(role, only(role, non(A)))))

    def test_negated(self):
        for role in (0, 1):
            other = 1 - role
            some_without = non(only(role, some(other, A)))
            all_with = only(role, non(only(other, non(A))))
            self.check(1, some_without)
            self.check(1, all_with)
            self.check(0, both(some_without, all_with))
            self.check(1, both(non(some(role, only(other, A))), some(role, some(other, A))))

    def test_three_deep(self):
        deep = some(0, some(1, some(0, A)))
        self.check(1, deep)
        self.check(0, some(0, some(1, some(0, both(A, non(A))))))
        self.check(1, non(only(0, only(1, only(0, A)))))
        self.check(0, non(only(0, only(1, only(0, TOP)))))


class WithAxioms(CanCase):

    def test_boolean_axioms(self):
        axioms = [(A, B), (B, non(C))]
        self.check(1, A, axioms)
        self.check(1, both(A, B), axioms)
        self.check(0, both(A, non(B)), axioms)
        self.check(0, both(A, C), axioms)
        self.check(1, both(C, non(A)), axioms)
        self.check(1, non(A), axioms)
        self.check(1, both(B, non(A)), axioms)

    def test_axioms_for_all_elements(self):
        axioms = [(TOP, A)]
        self.check(1, A, axioms)
        self.check(0, non(A), axioms)
        self.check(1, some(0, A), axioms)
        self.check(0, some(0, non(A)), axioms)
        self.check(0, some(1, some(0, non(A))), axioms)
        self.check(1, only(1, non(A)), axioms)

    def test_axioms_without_a_model(self):
        for axioms in (
            [(TOP, BOTTOM)],
            [(TOP, A), (A, BOTTOM)],
            [(TOP, some(0, A)), (TOP, only(0, non(A)))],
            [(TOP, some(1, A)), (A, B), (B, BOTTOM)],
        ):
            self.check(0, TOP, axioms)
            self.check(0, A, axioms)
            self.check(0, non(A), axioms)
            self.check(0, only(0, BOTTOM), axioms)

    def test_axioms_that_say_nothing(self):
        axioms = [(BOTTOM, A), (A, TOP), (B, B)]
        self.check(1, both(A, B), axioms)
        self.check(1, both(non(A), non(B)), axioms)
        self.check(0, BOTTOM, axioms)

    def test_restriction_in_the_first_concept(self):
        for role in (0, 1):
            self.check(0, both(non(A), some(role, B)), [(some(role, TOP), A)])
            self.check(1, both(non(A), some(1 - role, B)), [(some(role, TOP), A)])
            self.check(0, both(non(A), only(role, BOTTOM)), [(only(role, B), A)])
            self.check(1, both(non(A), some(role, TOP)), [(only(role, B), A)])

    def test_axioms_reach_related_elements(self):
        for role in (0, 1):
            axioms = [(A, only(role, B)), (B, non(C))]
            self.check(0, both(A, some(role, C)), axioms)
            self.check(1, both(A, some(1 - role, C)), axioms)
            self.check(1, both(B, some(role, C)), axioms)

    def test_dropped_axiom_counts_no_more(self):
        told = ask(line(A, B), line(A, non(B)), can(A), drop(0), can(A), can(both(A, B)))
        self.assertEqual(told, [0, 1, 0, 1, 1, 0])


class Support(CanCase):

    def test_a_kind_supports_itself(self):
        for role in (0, 1):
            self.check(1, A, [(A, some(role, A))])
            self.check(1, A, [(TOP, A), (TOP, some(role, TOP))])
            self.check(1, A, [(A, non(only(role, non(A))))])

    def test_only_another_kind_supports(self):
        for role in (0, 1):
            axioms = [(A, some(role, both(B, non(A))))]
            self.check(1, A, axioms)
            self.check(0, A, axioms + [(B, A)])
            self.check(0, A, axioms + [(B, BOTTOM)])
            negated = [(A, non(only(role, either(A, non(B)))))]
            self.check(1, A, negated)
            self.check(0, A, negated + [(B, A)])
            self.check(0, A, negated + [(B, BOTTOM)])

    def test_two_kinds_support_each_other(self):
        axioms = [(A, some(0, B)), (B, some(1, A)), (A, non(B))]
        self.check(1, A, axioms)
        self.check(1, B, axioms)
        self.check(0, both(A, B), axioms)

    def test_one_gone_takes_the_next(self):
        for role in (0, 1):
            axioms = [(A, some(role, B)), (B, some(1 - role, C))]
            self.check(1, A, axioms)
            axioms = axioms + [(C, BOTTOM)]
            for concept in (A, B, C, both(A, D), some(role, A)):
                self.check(0, concept, axioms)
            for concept in (D, TOP, both(non(A), non(B))):
                self.check(1, concept, axioms)

    def test_one_gone_takes_the_next_in_either_order(self):
        chain = [(C, some(0, B)), (B, some(0, A)), (A, BOTTOM)]
        for axioms in (chain, chain[::-1]):
            for concept in (A, B, C):
                self.check(0, concept, axioms)
            self.check(1, D, axioms)

    def test_gone_through_negated_restrictions(self):
        axioms = [(A, non(only(0, non(B)))), (B, non(only(1, non(C))))]
        self.check(1, A, axioms)
        self.check(0, A, axioms + [(C, BOTTOM)])
        self.check(0, B, axioms + [(C, BOTTOM)])

    def test_long_row_of_kinds_goes(self):
        for role in (0, 1):
            deep = A
            for depth in range(5):
                deep = some(role, deep)
                self.check(1, deep)
                self.check(0, deep, [(A, BOTTOM)])
                self.check(1, non(deep), [(A, BOTTOM)])

    def test_two_demands_are_each_supported(self):
        axioms = [(A, some(0, B)), (A, some(0, non(B)))]
        self.check(1, A, axioms)
        self.check(0, A, axioms + [(non(B), BOTTOM)])
        self.check(0, A, axioms + [(B, BOTTOM)])


if __name__ == "__main__":
    unittest.main()
