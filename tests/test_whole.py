"""Lines, hearings, consoles and the functions say the same of the same rows, stretches and phases."""

import unittest
from itertools import islice, product

from lastcopied import alike, heard, joins, patterns, rows, texts, times
from lastcopied.console import Console
from lastcopied.errors import CopyError, InvalidRow, Unheard
from lastcopied.hearings import CappedCountingHearing, CappedHearing, CountingHearing, Hearing
from lastcopied.lines import Line
from tests.cases import each_case, phases_of
from tests.test_form import SIGNATURES
from tests.wrong_values import OBJECTS, WRONG

ROWS = [
    ("new", (2, 3)), ("old", (3, 2)), ("new", (3, 2, 3)), ("old", (2, 3, 2)), ("new", (20, 12, 30)),
    ("old", (2, 3, 2, 3, 2)), ("new", (1, 2, 3)), ("old", (4, 3, 2, 4)), ("new", (5, 3, 4)),
]
RIGHT = {
    "row": ("new", (3, 2, 3)), "value": [(0, 1)] * 3, "phases": [(0, 1)] * 3, "time": (0, 1),
    "first": 0, "many": 1, "pattern": (1,), "stretch": [1], "index": 1, "text": "0 0 0",
    "one": ("new", (3, 2, 3)), "other": ("new", (3, 3)),
}


def spaced(steps):
    """Steps with single spaces between."""
    return " ".join(map(str, steps))


class OfTheSameRows(unittest.TestCase):

    def test_lines_and_texts(self):
        for row in ROWS:
            line = Line(row[0], *row[1])
            text = texts.write_row(row)
            self.assertEqual(texts.read_row(text), row)
            self.assertEqual(Line.read(text).row, line.row)
            self.assertEqual(Hearing(line.row).row, row)
            self.assertEqual(texts.write_row(Line.read(text).row), text)
            self.assertTrue(Line.read(text) == line)

    def test_patterns(self):
        for row in ROWS:
            known = patterns.patterns(row)
            self.assertEqual(Line(row[0], *row[1]).patterns(), known)
            self.assertEqual(Hearing(row).left, known)
            self.assertEqual(heard.patterns_with(row, []), known)
            self.assertEqual(Console(row).execute("left"), "; ".join(map(spaced, known)))
            wanted = sorted(patterns.turned(row, pattern) for pattern in known)
            self.assertEqual((~Line(row[0], *row[1])).patterns(), wanted)

    def test_comparisons(self):
        for one, other in product(ROWS, repeat=2):
            a, b = Line(one[0], *one[1]), Line(other[0], *other[1])
            same = alike.alike(one, other)
            self.assertIs(a == b, same)
            self.assertEqual(Console(one).execute(f"alike {texts.write_row(other)}"), "yes" if same else "no")
            self.assertIs(a == b, alike.parting(a.row, b.row) is None)
            self.assertIs(a <= b and b <= a, same)

    def test_needless_copiers(self):
        for row in ROWS:
            line = Line(row[0], *row[1])
            for index in range(1, len(line) - 1):
                self.assertIs(line.without(index) == line, alike.can_go(row, index))
            self.assertTrue(all(least == line for least in line.least_lines()))
            self.assertEqual([len(least) - 2 for least in line.least_lines()],
                             list(map(len, alike.least_rows(row))))

    def test_what_is_lost(self):
        for row in ROWS:
            most = patterns.totals(row, 1)[-1]
            self.assertIs(bool(Line(row[0], *row[1])), most < 2)
            self.assertIs(patterns.loses(row), most >= 2)
            self.assertEqual(Console(row).execute("total 1"), Console(row).execute("next"))
            self.assertEqual(spaced(patterns.totals(row, 7)), Console(row).execute("total 7"))


class OfTheSameStretches(unittest.TestCase):

    def test_what_is_heard(self):
        for row in ROWS:
            for pattern in patterns.patterns(row):
                self.follow(row, list(islice(pattern * 300, 1, 2 * len(pattern))))

    def follow(self, row, stretch):
        """All that hear the stretch say of it what the functions say."""
        hearings = [Hearing(row), CountingHearing(row), CappedHearing(row, 300),
                    CappedCountingHearing(row, 300)]
        console = Console(row)
        for size, step in enumerate(stretch, 1):
            told = stretch[:size]
            left = heard.patterns_with(row, told)
            self.assertEqual(console.execute(f"try {step} left"), "; ".join(map(spaced, left)))
            self.assertEqual(console.execute(f"hear {step}"), str(len(left)))
            steps, rest = heard.sure_steps(row, told)
            self.assertEqual(console.execute("sure"), f"{spaced(steps)} | {spaced(rest)}".lstrip()
                             if rest else f"{spaced(steps)} *")
            self.assertEqual(console.execute("next"), spaced(heard.next_steps(row, told)))
            self.assertEqual(texts.read_steps(console.execute("heard")), told)
            for hearing in hearings:
                self.assertEqual(hearing.tried([step]), [len(left)])
                self.assertEqual(hearing.hear(step), len(left))
                self.assertEqual((hearing.left, hearing.sure()), (left, (steps, rest)))
                self.assertEqual(hearing.following, heard.next_steps(row, told))

    def test_telling_stretches(self):
        for row in ROWS:
            for pattern in patterns.patterns(row):
                stretch = heard.telling(row, pattern)
                hearing = Hearing(row)
                self.assertEqual(hearing.tried(stretch)[-1:], [1] if stretch else [])
                self.assertEqual(heard.patterns_with(row, stretch), [pattern])

    def test_what_cannot_follow(self):
        for row in ROWS:
            hearing = Hearing(row)
            for step in range(10):
                if step not in hearing.following:
                    self.assertRaises(Unheard, hearing.hear, step)
                    self.assertRaises(Unheard, hearing.tried, [step])
                    self.assertRaises(Unheard, Console(row).execute, f"hear {step}")
                    self.assertRaises(Unheard, heard.sure_steps, row, [step])


class OfTheSamePhases(unittest.TestCase):

    def test_walks_and_calls(self):
        for row, twelfths in each_case():
            line = Line(row[0], *row[1])
            phases = texts.read_phases(row, texts.write_phases(row, phases_of(twelfths, row[1])))
            steps = list(line.walk(phases))
            taken = rows.arrivals(row, phases, 0, len(steps) + 1)
            self.assertEqual(steps, [ahead - number for number, ahead in zip(taken, taken[1:])])
            pattern = rows.pattern(row, phases)
            self.assertIn(pattern, line.patterns())
            self.assertIn(sum(steps), patterns.totals(row, len(steps)))
            hearing = Hearing(row)
            self.assertEqual(len(hearing.tried(steps)), len(steps))
            top, bottom = phases[-1]
            self.assertEqual(line(phases, (top, bottom)), taken[0])
            self.assertEqual(line(phases, (top + row[1][-1] * bottom, bottom)), taken[1])


class AnyValue(unittest.TestCase):

    def test_objects_are_no_rows_and_no_phases(self):
        for value in OBJECTS:
            self.assertIs(rows.is_row(value), False)
            self.assertIs(rows.is_phases(("new", (2, 3)), value), False)
            self.assertIs(rows.is_phases(("new", (2, 3)), [value, value]), False)
            self.assertRaises(InvalidRow, rows.is_phases, value, [(0, 1), (0, 1)])

    def test_every_function_raises_its_listed_error_for_objects(self):
        for module, functions in SIGNATURES.items():
            for name, parameters in functions.items():
                right = {parameter: RIGHT[parameter] for parameter in parameters}
                for parameter in parameters:
                    if parameter in WRONG:
                        for value in OBJECTS:
                            self.refuses(getattr(module, name), {**right, parameter: value},
                                         WRONG[parameter][0])

    def refuses(self, call, arguments, wanted):
        """The call raises exactly this error."""
        with self.assertRaises(CopyError) as caught:
            call(**arguments)
        self.assertIs(type(caught.exception), wanted, (call, arguments))

    def test_the_right_ones_are_right(self):
        for module in (rows, patterns, heard, alike, times, joins):
            for name, parameters in SIGNATURES[module].items():
                getattr(module, name)(**{parameter: RIGHT[parameter] for parameter in parameters})

    def test_objects_stay_as_they_were(self):
        line, hearing = OBJECTS[0], OBJECTS[2]
        self.assertEqual((line.row, hearing.heard), (("new", (2, 3)), []))
        self.assertEqual(OBJECTS[-1].execute("heard"), "-")
