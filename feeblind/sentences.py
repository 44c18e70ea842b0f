"""The eight sentences that a measure may keep, and the judge of measures."""

from feeblind.joint import Several
from feeblind.told import Told
from feeblind.verdicts import MeasureRefused, MeasureTaken

SENTENCES = (
    "right_unit",
    "left_unit",
    "order",
    "grouping",
    "joining",
    "ring",
    "left_sharing",
    "right_sharing",
)


def keeps_right_unit(measure, one, _two, _three):
    """then(a, stay) = a."""
    return measure.then(one, measure.stay) == one


def keeps_left_unit(measure, one, _two, _three):
    """then(stay, a) = a."""
    return measure.then(measure.stay, one) == one


def keeps_order(measure, one, two, _three):
    """best(a, b) = best(b, a)."""
    return measure.best(one, two) == measure.best(two, one)


def keeps_grouping(measure, one, two, three):
    """best(best(a, b), c) = best(a, best(b, c))."""
    return measure.best(measure.best(one, two), three) == measure.best(one, measure.best(two, three))


def keeps_joining(measure, one, two, three):
    """then(then(a, b), c) = then(a, then(b, c))."""
    return measure.then(measure.then(one, two), three) == measure.then(one, measure.then(two, three))


def keeps_ring(measure, one, _two, _three):
    """best(stay, a) = stay."""
    return measure.best(measure.stay, one) == measure.stay


def keeps_left_sharing(measure, one, two, three):
    """then(a, best(b, c)) = best(then(a, b), then(a, c))."""
    shared = measure.best(measure.then(one, two), measure.then(one, three))
    return measure.then(one, measure.best(two, three)) == shared


def keeps_right_sharing(measure, one, two, three):
    """then(best(a, b), c) = best(then(a, c), then(b, c))."""
    shared = measure.best(measure.then(one, three), measure.then(two, three))
    return measure.then(measure.best(one, two), three) == shared


CHECKS = {
    "right_unit": keeps_right_unit,
    "left_unit": keeps_left_unit,
    "order": keeps_order,
    "grouping": keeps_grouping,
    "joining": keeps_joining,
    "ring": keeps_ring,
    "left_sharing": keeps_left_sharing,
    "right_sharing": keeps_right_sharing,
}

# How many of a, b and c a sentence has.
MANY = {
    "right_unit": 1,
    "left_unit": 1,
    "order": 2,
    "grouping": 3,
    "joining": 3,
    "ring": 1,
    "left_sharing": 3,
    "right_sharing": 3,
}


def keeps(measure, sentence, one, two, three):
    """Whether a measure keeps the sentence with this name for three values."""
    check = CHECKS[sentence]
    return check(measure, one, two, three)


def cases(names, many):
    """All cases of a sentence with so many values, the last one changing fastest; the empty string for the others."""
    twos = names if many > 1 else [""]
    threes = names if many > 2 else [""]
    return [(one, two, three) for one in names for two in twos for three in threes]


def judge_told(measure):
    """The verdict on a stranger's measure."""
    names = measure.names()
    for sentence in SENTENCES:
        for one, two, three in cases(names, MANY[sentence]):
            if not keeps(measure, sentence, one, two, three):
                return MeasureRefused(sentence, one, two, three)
    return MeasureTaken()


def judge_measure(measure):
    """The verdict on a measure: only Told measures, also within Several, may be refused."""
    if isinstance(measure, Told):
        return judge_told(measure)
    if isinstance(measure, Several):
        for inner in measure.measures():
            verdict = judge_measure(inner)
            if not verdict.taken:
                return verdict
    return MeasureTaken()
