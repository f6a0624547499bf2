"""The examples of the document, section by section, with the value or the error that each shows."""

import unittest

from allnear import (
    bases, check_judge, check_near, check_numbers, check_pieces, checks, curves, desk, desk_asks, desk_deeds,
    desk_lines, errors, judge, least, looks, near, numbers, papers, pieces, polys, reaches, readings, rests, roots,
    rows, schemes, stories, terms, words,
)
from tests.helper import Case

MODULES = (bases, check_judge, check_near, check_numbers, check_pieces, checks, curves, desk, desk_asks, desk_deeds,
           desk_lines, errors, judge, least, looks, near, numbers, papers, pieces, polys, reaches, readings, rests,
           roots, rows, schemes, stories, terms, words)

EXAMPLES = """
# checks
>>> [is_integer(True), is_within(3, None, 3), is_numbers((1, True)), is_prime(97), is_prime(91), is_prime("2"), is_sign(5, 4), is_sign(5, 5), first_twice([3, 1, 3]), len(PRIMES)]
[False, True, False, True, False, False, True, False, 3, 25]
# papers
>>> [fixed([1, [None, (2, [])], "a"]), bool(Paper("note", [1])), bool(Denial("note")), Paper("note", [1]) == Paper("note", (1,)), Paper("note", 1) == Denial("note", 1)]
[(1, (None, (2, ())), 'a'), True, False, True, False]
# polys
>>> [inverse(7, 3), inverse(7, -4), inverse(2, 1)]
[5, 5, 1]
>>> inverse(5, 10)
raises ByZero()
>>> f, g = Poly(7, [3, 0, 1]), Poly(7, [-1, 8])
>>> [f.coefficients, g.coefficients, f.degree, Poly(7).degree, str(f), str(Poly(7)), f(2), f(-1), Poly(7, [2, 0, 14]) == Poly(7, [2])]
[(3, 0, 1), (6, 1), 2, -1, '7 : 3 0 1', '7 :', 0, 4, True]
>>> [str(f + g), str(f - f), str(f * g), str(f // g), str(f % g), str(-g), str(g ** 2)]
['7 : 2 1 1', '7 :', '7 : 4 3 6 1', '7 : 1 1', '7 : 4', '7 : 1 6', '7 : 1 5 1']
>>> [str(f.moved(1)), str(f.moved(2, 3)), str(f.at(g)), Poly.read("7 : 3 0 1") == f]
['7 : 4 2 1', '7 : 0 5 2', '7 : 4 5 1', True]
>>> [roots(f), roots(g), roots(Poly(3)), str(shared(f, Poly(7, [2, 1]))), str(through(7, [(0, 3), (2, 0), (1, 4)]))]
[(2, 5), (1,), (0, 1, 2), '7 : 2 1', '7 : 3 0 1']
>>> Poly.read("7 : 3 0")
raises BadText(0, 3)
# schemes
>>> scheme = Scheme(7, [1, 2, 4], 2)
>>> [str(scheme), len(scheme), scheme.renamed(3, 1).places, Scheme.read("5 2 at 4 at 0") == Scheme(5, (4, 0), 2)]
['7 2 at 1 at 2 at 4', 3, (4, 0, 6), True]
>>> Scheme(5, [0, 1, 2, 1], 9)
raises Twice(1)
>>> Scheme.read("7 3 at 0 at 5")
raises BadText(0, 6)
# words
>>> word = Poly(7, [3, 2])
>>> [row_of(scheme, word), word_of(scheme, [5, 0, 4]) == word, word_of(scheme, [5, 0, 5]), coefficients_of(scheme, Poly(7, [3]))]
[(5, 0, 4), True, None, (3, 0)]
>>> [[one.coefficients for one in words(Scheme(2, [0, 1], 2))], is_word(scheme, Poly(7, [0, 0, 1])), is_word(scheme, Poly(5, [1]))]
[[(), (0, 1), (1,), (1, 1)], False, False]
# readings
>>> reading = Reading(Scheme(7, [0, 1, 2], 2), [[(3, 1)], [], [(5, 1), (4, 2)]])
>>> [str(reading), reading.points, reading.weights, reading.squares, reading.is_plain]
['7 2 at 0 3 1 at 1 at 2 4 2 5 1', ((0, 3, 1), (2, 4, 2), (2, 5, 1)), 4, 6, False]
>>> line = Poly(7, [3, 4])
>>> [reading.score(line), reading.right(line), reading.with_offer(1, 0, 3).score(line), reading.without(2, 4).score(line)]
[3, (0, 2), 6, 1]
>>> [reading.moved(Poly(7, [0, 1])).offers, reading.stretched(3).offers[2], reading.renamed(2, 1).scheme.places]
[(((3, 1),), (), ((0, 1), (6, 2))), ((1, 1), (5, 2)), (1, 3, 5)]
>>> told = Reading.plain(Scheme(5, [0, 1, 2, 3, 4], 2), [0, 1, 2, 0, None])
>>> [told.right(Poly(5, [0, 1])), told.score(Poly(5)), told.is_plain, Reading.read(str(told)) == told]
[(0, 1, 2), 2, True, True]
>>> reading.without(1, 0)
raises NoOffer(0)
>>> Reading.read("7 2 at 0 3 1 3 1 at 1")
raises BadText(0, 6)
# terms
>>> [span_of(3, 1, 2), many_terms(2, 2), many_terms(3, 5), many_terms(2, -1), many_conditions([1, 2, 3, 0])]
[5, 6, 12, 0, 10]
>>> terms_to(3, 3)
((0, 0), (1, 0), (2, 0), (0, 1), (3, 0), (1, 1))
# curves
>>> line, both = Poly(5, [0, 1]), Curve(5, [[], [0, 4], [1]])
>>> [str(both), both.power, both.span(2), both.leading(2), both.leading(3), both.coefficient(1, 1), both.coefficient(7, 0)]
['5 : / 0 4 / 1 /', 2, 2, (0, 2), (0, 2), 4, 0]
>>> [both.passes(0, 0), both.passes(1, 1), both.passes(2, 1), both.passes(5, -5), str(both.around(1, 1))]
[2, 1, 0, 2, '5 : 0 4 / 1 4 / 1 /']
>>> [both.along(line).degree, str(both.along(Poly(5, [1, 1]))), str(both.divided(line)), both.divided(Poly(5, [1])), both.divided(line) * Curve(5, [[0, -1], [1]]) == both]
[-1, '5 : 1 1', '5 : / 1 /', None, True]
>>> [str(Curve(5, [[2], [0, 3, 5], [0]])), str(Curve(5, [[2], [0, 3]]).led(2)), Curve.read("5 : / 1 /").rows]
['5 : 2 / 0 3 /', '5 : 4 / 0 1 /', ((), (1,))]
>>> Curve.read("5 : 3 0 / 1 /")
raises BadText(0, 4)
# bases
>>> begun = Base(5, 2, 1)
>>> two = begun.passing(0, 0, 1).passing(1, 1, 1)
>>> [begun.least.rows, begun.passing(0, 0, 2).least.rows, two.least.rows, two.passed, two.conditions]
[((1,),), ((0, 0, 1),), ((0, 4), (1,)), ((0, 0, 1), (1, 1, 1)), 2]
>>> four = two.passing(2, 2, 1).passing(3, 0, 1)
>>> [four.least.rows, four.passing(4, 0, 1).least.rows]
[((0, 3, 4), (2, 1)), ((0, 2, 3, 1), (0, 4))]
>>> begun.passing(0, 0, 16).passing(1, 1, 5)
raises TooMany('conditions', 150)
# least
>>> five = Scheme(5, [0, 1, 2, 3, 4], 2)
>>> read = Reading.plain(five, [0, 1, 2, 0, 0])
>>> [least_curve(read, 1).rows, least_curve(Reading.plain(five, [None] * 5), 3).rows]
[((), (0, 4), (1,)), ((1,),)]
>>> least_curve(Reading(five, [[], [], [(4, 3)], [], []]), 2).rows
((4, 3, 0, 0, 0, 3, 1),)
# pieces
>>> line, bent = Curve(5, [[], [0, 4], [1]]), Curve(7, [[0, 0, -1], [1]])
>>> [pieces(line, 2).parts, pieces(bent, 2).parts, pieces(bent, 3).words, pieces(Curve(2, [[], [1], [1]]), 2).words]
[(((0, 0), (0, 1)), (1, 1), ((1,),)), ((), (), ((0, 0, 6), (1,))), ((0, 0, 1),), ((0, 0), (1, 0))]
>>> [pieces(Curve(5, [[0, 1], [0, 3], [0, 1]]), 2).parts, is_piece(bent, Poly(7, [0, 0, 1])), is_piece(bent, Poly(7)), pieces(Curve(3, [[2, 1]]), 2).parts]
[(((1, 0),), (2,), ((0, 1),)), True, False, ((), (), ((2, 1),))]
# check_pieces
>>> [shows_pieces(line, 2, Pieces([[0, 0], [0, 1]], [1, 1], [[1]])), shows_pieces(line, 2, Pieces([(0, 0)], [1], [[0, 4], [1]])), shows_pieces(line, 2, Pieces([(0, 1), (0, 0)], [1, 1], [[1]]))]
[True, False, False]
# reaches
>>> scheme = Scheme(5, [0, 1, 2, 3, 4], 2)
>>> spoilt = Reading.plain(scheme, [0, 1, 2, 0, 0])
>>> [conditions_of(spoilt, 1), conditions_of(spoilt, 3), enough(spoilt, 2), enough(spoilt, 3), reach(spoilt)]
[5, 30, None, 1, (3, 1)]
>>> [reach(Reading(scheme, [[], [], [], [], []])), reach(Reading(scheme, [[], [(3, 3)], [], [], []])), reach(Reading.plain(Scheme(7, [0, 1, 2, 3, 4, 5, 6], 2), [0, 0, 0, 0, 0, 0, 0]))]
[(1, 1), (4, 1), (3, 3)]
# near
>>> near = all_near(spoilt, 3)
>>> [near.words, near.curve.rows, near.m, all_near(spoilt, 4).words, all_near(spoilt, 10 ** 6).words]
[((0, 0), (0, 1)), ((), (0, 4), (1,)), 1, (), ()]
>>> best = nearest(spoilt)
>>> [best.words, best.score, best.m, bool(nearest(Reading(scheme, [[], [], [], [], []])))]
[((0, 0), (0, 1)), 3, 1, False]
>>> all_near(spoilt, 2)
raises Beyond(3)
# check_near
>>> curve = Curve(5, [[], [0, 4], [1]])
>>> [shows_all(spoilt, 3, All([(0, 0), (0, 1)], curve, 1)), shows_all(spoilt, 3, All([(0, 1)], curve, 1)), shows_all(spoilt, 3, All([(0, 0), (0, 1)], curve, 2)), shows_all(spoilt, 4, All([], curve, 1))]
[True, False, False, True]
>>> [shows_nearest(spoilt, Nearest([(0, 0), (0, 1)], 3, curve, 1)), shows_nearest(spoilt, Far(curve, 1))]
[True, False]
# looks
>>> line = Scheme(5, [0, 1, 2, 3, 4], 2)
>>> seen = Reading.plain(line, [0, 1, 2, 0, 0])
>>> [values_at(seen, 3, 0), values_at(seen, 3, 3), values_at(seen, 4, 3), best_look(seen, 3)]
[(0,), (0, 3), (), (1, 1)]
>>> [word_at(seen, 3, 0, 0), word_at(seen, 3, 3, 3), word_at(seen, 3, 3, 1)]
['must', 'can', 'cannot']
# judge
>>> [alone(line, 4).word, alone(line, 3).word, bool(alone(line, 1)), alone(Scheme(2, [0, 1], 2), 2).word]
['alone', 'twins', False, 'alone']
# check_judge
>>> [shows_alone(line, 3, Twins([0, 0], [0, 1], [0, 1, 2, 0, 0])), shows_alone(line, 4, Twins([0, 0], [0, 1], [0, 1, 2, 0, 0])), shows_alone(line, 4, Alone()), shows_alone(line, 3, Alone())]
[True, False, True, False]
# rows
>>> [determinant([[7]]), determinant([[0, 1], [1, 0]]), determinant([(2, 1), (1, 3)]), determinant([[1, 2], [2, 4]]), determinant([[1, 2, 3], [0, 4, 5], [0, 0, 6]])]
[7, -1, 5, 0, 24]
>>> near, other = reduced([[1, 0], [1000, 1]]), reduced([[5, 0], [2, 1]])
>>> [sum([one * one for one in near[0]]), abs(determinant(near)), sum([one * one for one in other[0]]), abs(determinant(other))]
[1, 1, 5, 5]
>>> reduced([[1, 2], [2, 4]])
raises BadRows('hang')
>>> determinant([[1, 2]])
raises BadRows('rows')
# roots
>>> [whole_roots([6, -5, 1], 0, 10), whole_roots([0, -1, 0, 1], -5, 5), whole_roots([4, -4, 1], 2, 2), whole_roots([-1, 2], -9, 9), whole_roots([5], 0, 99), whole_roots([-3, 1, 0, 0], 0, 9)]
[(2, 3), (-1, 0, 1), (2,), (), (), (3,)]
>>> whole_roots([10 ** 40, -2 * 10 ** 20, 1], 0, 10 ** 30)
(100000000000000000000,)
# rests
>>> few = Rests([5, 7], [3, 3], 3)
>>> [few.product, few.number, few.worth(3), few.right(0), str(few.without(7)), few.without(7).worth(3), few.with_rest(7, 4).number]
[35, 3, 35, (), '3 : 5 3 / 7 -', 5, 18]
>>> few.without(5).without(7)
raises BadNumber("most")
>>> Rests.read("3 : 5 3 / 7 7")
raises BadText(0, 6)
>>> book = Rests.read("30 : 11 8 / 29 8 / 31 8 / 43 8 / 53 19 / 73 19 / 89 19 / 97 19")
>>> [book.worth(8), book.right(19), book.worth(30), book.worth(0)]
[425227, (11, 53, 73, 89, 97), 11, 1]
# numbers
>>> [least_worth(few), enough_for(few, 15), enough_for(few, 16), enough_for(few, 17), enough_for(few, 18)]
[16, None, (2, 4), (2, 3), (1, 2)]
>>> [all_numbers(few, 16).numbers, all_numbers(book, 328987).numbers, all_numbers(book, 400000000).numbers, least_worth(book)]
[(3,), (8, 19), (), 328987]
>>> all_numbers(few, 7)
raises Beyond(16)
# check_numbers
>>> [shows_numbers(few, worth, AllNumbers([3], [-3, 1], 1)) for worth in (6, 7, 35)]
[False, True, True]
>>> [shows_numbers(few, 7, AllNumbers((3,), told, 2)) for told in ([9, -6, 1], [-3, 1], [49, 0, 0])]
[True, False, False]
# desk_lines
>>> [read_line("offer 0 3 1"), read_line("move 0 1"), read_line("set 7 2 at 0 at 1")[1] == Scheme(7, (0, 1), 2), read_line("reach")]
[('offer', 0, 3, 1), ('move', (0, 1)), True, ('reach',)]
>>> read_line("set 7 2 at 0")
raises BadText(0, 5)
>>> read_line("near")
raises BadText(0, 1)
# desk_asks
>>> some = Reading.plain(Scheme(5, (0, 1, 2, 3, 4), 2), [0, 1, 2, 0, 0])
>>> [answer(some, "reach"), answer(some, "near 3"), answer(some, "nearest"), answer(some, "at 3 2"), answer(some, "judge 3 0 0"), answer(some, "alone 3"), answer(some, "near 4"), answer(some, "score 0 2")]
['3 1', '0 0 / 0 1', '3 / 0 0 / 0 1', '0 2', 'must', 'twins', '-', '1']
>>> [done(some, "strike 3 0")[1], str(done(None, "set 5 2 at 0 at 1")[0])]
['4', '5 2 at 0 at 1']
# stories
>>> play(["set 5 2 at 0 at 1 at 2 at 3 at 4", "offer 0 0 1", "offer 1 1 1", "offer 2 2 1", "offer 3 0 1", "offer 4 0 1", "near 3", "look 3"])
('5', '1', '2', '3', '4', '5', '0 0 / 0 1', '1 1')
>>> play(["reach"])
raises BadLine(0, Nothing())
"""


def example_pairs(text):
    """Each line of an example, and the line that tells what it shows, if any."""
    pairs = []
    for line in text.strip().split("\n"):
        if line.startswith(">>> "):
            pairs.append([line[4:], None])
        elif not line.startswith("# "):
            pairs[-1][1] = line
    return pairs


class Examples(Case):
    """All of them, one behind another, names as earlier ones made them last."""

    def test_examples(self):
        known = {name: value for module in MODULES for name, value in vars(module).items()
                 if getattr(value, "__module__", None) == module.__name__ or name == "PRIMES"}
        for line, shown in example_pairs(EXAMPLES):
            with self.subTest(line):
                if shown is None:
                    exec(line, known)
                elif shown.startswith("raises "):
                    self.fails(eval(shown[7:], known), eval, line, known)
                else:
                    self.same(eval(line, known), eval(shown, known))

    def test_none_is_passed_over(self):
        pairs = example_pairs(EXAMPLES)
        self.assertEqual(len([shown for _, shown in pairs if shown]), 68)


if __name__ == "__main__":
    unittest.main()
