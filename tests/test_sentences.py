"""[7] and [9]: the eight sentences, and the judge of measures."""

from copy import deepcopy
from itertools import product
from random import Random
from unittest import TestCase, main

from feeblind.joint import First, Several
from feeblind.measures import Price, Width
from feeblind.sentences import SENTENCES, judge_measure, keeps
from feeblind.told import Told
from feeblind.verdicts import MeasureRefused, MeasureTaken
from tests.oracles import EIGHT, LETTERS, ODD, first_fault, sides
from tests.samples import capped, narrow, samples

GOOD = [capped(["a"]), capped(["z", "a"]), capped(["b", "c", "a"]), narrow(["c", "b", "a"]), capped(list("dcab"))]


def leftmost():
    """A measure that breaks right_sharing alone: behind a or b nothing counts any more."""
    best = [["o", "o", "o"], ["o", "a", "a"], ["o", "a", "b"]]
    return Told(["o", "a", "b"], best, [["o", "a", "b"], ["a", "a", "a"], ["b", "b", "b"]], "o")


def changed(measure):
    """All measures that differ from a Told measure in one item of one table, or in stay."""
    names = measure.names()
    for table, i, j, name in product((0, 1), range(len(names)), range(len(names)), names):
        tables = measure.tables()
        tables[table][i][j] = name
        yield Told(names, *tables, measure.stay)
    for name in names:
        yield Told(names, *measure.tables(), name)


def random_measure(random, many):
    """A measure whose tables are random."""
    names = list("cadbfe"[:many])
    tables = [[[random.choice(names) for _ in names] for _ in names] for _ in range(2)]
    return Told(names, *tables, random.choice(names))


class Names(TestCase):
    def test_sentences(self):
        self.assertEqual(SENTENCES, tuple(EIGHT))
        self.assertIs(type(SENTENCES), tuple)


class Keeps(TestCase):
    def test_each_sentence_for_each_measure(self):
        for measure, values in samples():
            some = values[:6] + [None]
            for sentence in SENTENCES:
                for case in product(some, repeat=3):
                    self.assertIs(keeps(measure, sentence, *case), True, (measure, sentence, case))

    def test_against_the_sentences_written_out(self):
        random = Random(7)
        for _ in range(40):
            measure = random_measure(random, random.randint(1, 4))
            for sentence in SENTENCES:
                for case in product(measure.names() + [None], repeat=3):
                    left, right = sides(measure, sentence, *case)
                    self.assertIs(keeps(measure, sentence, *case), left == right)

    def test_values_that_a_sentence_does_not_have_mean_nothing(self):
        for measure in GOOD + [leftmost(), random_measure(Random(8), 3)]:
            for sentence, many in LETTERS.items():
                for case in product(measure.names(), repeat=many):
                    wanted = keeps(measure, sentence, *case, *[""] * (3 - many))
                    for value in ODD:
                        self.assertIs(keeps(measure, sentence, *case, *[value] * (3 - many)), wanted)

    def test_by_name(self):
        self.assertIs(keeps(three="a", two="b", one="o", sentence="right_sharing", measure=leftmost()), True)
        self.assertIs(keeps(three="b", two="a", one="o", sentence="right_sharing", measure=leftmost()), False)

    def test_each_sentence_by_hand(self):
        best, then = [["b", "b"], ["a", "b"]], [["b", "a"], ["a", "a"]]
        measure = Told(["a", "b"], best, then, "a")
        told = [keeps(measure, sentence, "a", "b", "a") for sentence in SENTENCES]
        self.assertEqual(told, [False, False, False, False, True, False, True, True])


class JudgeMeasure(TestCase):
    def check(self, measure):
        fault = first_fault(measure)
        verdict = judge_measure(measure)
        self.assertEqual(verdict, MeasureTaken() if fault is None else MeasureRefused(*fault))
        return "" if fault is None else fault[0]

    def test_the_example_of_the_document(self):
        best = [["o", "o", "o", "o"], ["o", "wl", "wl", "wl"], ["o", "wl", "ns", "ns"], ["o", "wl", "ns", "nl"]]
        then = [["o", "wl", "ns", "nl"], ["wl", "wl", "nl", "nl"], ["ns", "nl", "ns", "nl"], ["nl", "nl", "nl", "nl"]]
        refused = judge_measure(Told(["o", "wl", "ns", "nl"], best, then, "o"))
        self.assertEqual([refused.sentence, refused.one, refused.two, refused.three], ["left_sharing", "ns", "wl", "ns"])
        self.assertIs(refused.taken, False)

    def test_takes_the_measures_of_the_package(self):
        for measure, _ in samples():
            self.assertEqual(judge_measure(measure), MeasureTaken())

    def test_takes_good_tables(self):
        for measure in GOOD + [capped(list("fedcba")), narrow(list("badcfe"))]:
            self.assertEqual(self.check(measure), "")

    def test_one_sentence_of_one_letter(self):
        measure = Told(["a", "b"], [["a", "a"], ["a", "b"]], [["a", "b"], ["b", "a"]], "b")
        self.assertEqual(judge_measure(measure), MeasureRefused("right_unit", "a", "", ""))

    def test_one_sentence_of_two_letters(self):
        measure = Told(["a", "b"], [["a", "a"], ["b", "b"]], [["a", "b"], ["b", "b"]], "a")
        self.assertEqual(judge_measure(measure), MeasureRefused("order", "a", "b", ""))

    def test_a_table_that_breaks_only_the_last_sentence(self):
        measure = leftmost()
        for sentence in SENTENCES[:-1]:
            for case in product(measure.names(), repeat=3):
                self.assertIs(keeps(measure, sentence, *case), True)
        self.assertEqual(judge_measure(measure), MeasureRefused("right_sharing", "o", "a", "b"))
        self.assertEqual(self.check(measure), "right_sharing")

    def test_one_item_changed(self):
        told = {self.check(measure) for good in GOOD + [leftmost()] for measure in changed(good)}
        self.assertEqual(told, {"", *SENTENCES})

    def test_left_unit_alone_among_units(self):
        measure = Told(["a", "b"], [["a", "a"], ["a", "b"]], [["a", "a"], ["b", "b"]], "a")
        self.assertEqual(judge_measure(measure), MeasureRefused("left_unit", "b", "", ""))

    def test_names_go_in_their_own_order(self):
        measure = Told(["b", "a"], [["a", "a"], ["a", "a"]], [["a", "a"], ["a", "a"]], "a")
        self.assertEqual(judge_measure(measure), MeasureRefused("right_unit", "b", "", ""))

    def test_the_last_letter_changes_fastest(self):
        best = [["a", "b", "c"], ["c", "b", "c"], ["b", "b", "c"]]
        measure = Told(["a", "b", "c"], best, [["a", "b", "c"], ["b", "b", "b"], ["c", "c", "c"]], "a")
        self.assertEqual(judge_measure(measure), MeasureRefused("order", "a", "b", ""))
        self.check(measure)

    def test_random_tables(self):
        random = Random(9)
        for _ in range(400):
            self.check(random_measure(random, random.randint(1, 6)))

    def test_all_tables_of_two_names(self):
        rows = [list(row) for row in product("ab", repeat=2)]
        tables = [[one, other] for one, other in product(rows, repeat=2)]
        for best, then, stay in product(tables, tables, "ab"):
            self.check(Told(["a", "b"], best, then, stay))

    def test_several_is_refused_as_the_first_refused_one(self):
        bad = Told(["a", "b"], [["a", "a"], ["b", "b"]], [["a", "b"], ["b", "b"]], "a")
        order = MeasureRefused("order", "a", "b", "")
        sharing = MeasureRefused("right_sharing", "o", "a", "b")
        self.assertEqual(judge_measure(Several(bad, leftmost())), order)
        self.assertEqual(judge_measure(Several(leftmost(), bad)), sharing)
        self.assertEqual(judge_measure(Several(Width(), GOOD[2], leftmost(), bad)), sharing)
        self.assertEqual(judge_measure(Several(Price("a"), Width(), Price("b"), bad)), order)
        self.assertEqual(judge_measure(Several(GOOD[1], GOOD[2])), MeasureTaken())
        self.assertEqual(judge_measure(Several(Price("a"), First("a", Width()))), MeasureTaken())

    def test_the_measure_is_unchanged_and_judged_alike(self):
        measure = leftmost()
        before = deepcopy((measure.names(), measure.tables(), measure.stay))
        self.assertEqual(judge_measure(measure), judge_measure(measure=measure))
        self.assertEqual((measure.names(), measure.tables(), measure.stay), before)


if __name__ == "__main__":
    main()
