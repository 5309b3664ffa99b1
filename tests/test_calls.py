"""The interface over all eight calls: names and order of arguments; a call changes, keeps and prints nothing."""

import contextlib
import inspect
import io
import itertools
import unittest

from outward import figures
from tests.helpers import LIMIT, spell, told

# The arguments of each call, in their order: whole numbers ahead of texts.
ARGUMENTS = {
    "exact": ["t"], "at": ["d", "way", "t"], "two": ["op", "a", "b"], "order": ["a", "b"], "shown": ["v", "b"],
    "split": ["t"], "root": ["d", "above", "t"], "holds": ["t", "v", "b"],
}

# Whole numbers for each call that takes some: such as are taken, and such as are refused.
WHOLE = {
    "at": [(0, 0), (3, 1), (-60, 2), (60, 3), (1, 4), (61, 0), (-2147483648, 0), (0, 5), (0, 4294967295)],
    "two": [(0,), (1,), (2,), (3,), (4,), (4294967295,)],
    "root": [(0, 0), (3, 1), (-60, 0), (60, 1), (-61, 0), (2147483647, 1), (0, 2), (0, 4294967295)],
}

TEXTS = (
    "-06/4", "1.50", "0", "-0", "1/3", "10.0004 +- 0.0013", "-5 +- 1/3", "", "12.", "1/0", "5 +- ", str(LIMIT - 1),
    str(LIMIT), str(LIMIT) + " +- 1", "1" * 4097,
)
# Of three texts at once every choice would be many.
FEWER_TEXTS = ("1.50", "-0", "-5 +- 1/3", "0 +- 7", "12.", str(LIMIT), "1" * 4097)


def texts_of(name):
    """How many texts a call takes."""
    return sum(argument not in ("op", "d", "way", "above") for argument in ARGUMENTS[name])


def calls():
    """Every call, each with whole numbers if it takes some, and with how many texts it takes."""
    for name in ARGUMENTS:
        for whole in WHOLE.get(name, [()]):
            yield name, whole, texts_of(name)


def cases():
    """Every call with texts of every sort."""
    for name, whole, count in calls():
        for texts in itertools.product(TEXTS if count < 3 else FEWER_TEXTS, repeat=count):
            yield getattr(figures, name), whole, texts


class Calls(unittest.TestCase):

    def test_names_and_order_of_arguments(self):
        for name, arguments in ARGUMENTS.items():
            call = getattr(figures, name)
            self.assertEqual((call.__module__, call.__name__), ("outward.figures", name))
            given = inspect.signature(call).parameters.values()
            self.assertEqual([argument.name for argument in given], arguments)
            for argument in given:
                self.assertIs(argument.default, inspect.Parameter.empty)
                self.assertIs(argument.kind, inspect.Parameter.POSITIONAL_OR_KEYWORD)

    def test_what_is_handed_in_stays(self):
        for call, whole, texts in cases():
            handed = [spell(text) for text in texts]
            call(*whole, *handed)
            self.assertEqual(handed, [spell(text) for text in texts])

    def test_one_list_as_several_texts(self):
        for name, whole, count in calls():
            call = getattr(figures, name)
            for text in TEXTS:
                handed = spell(text)
                self.assertEqual(call(*whole, *[handed] * count), call(*whole, *[spell(text) for step in range(count)]))
                self.assertEqual(handed, spell(text))

    def test_one_list_as_the_last_two_of_three(self):
        for t in ("5 +- 5", "0 +- 9.9999", "12.", "5 +- 4.9999"):
            for text in TEXTS:
                told_text, handed = spell(t), spell(text)
                self.assertEqual(figures.holds(told_text, handed, handed),
                                 figures.holds(spell(t), spell(text), spell(text)))
                self.assertEqual((told_text, handed), (spell(t), spell(text)))
        handed = spell("5")
        self.assertEqual(figures.holds(spell("5 +- 5"), handed, handed), [1])
        self.assertEqual(figures.holds(spell("5 +- 4.9999"), handed, handed), [0])

    def test_some_of_these_by_themselves(self):
        handed = spell("-2.50")
        self.assertEqual([figures.two(op, handed, handed) for op in range(4)],
                         [told("-5"), told("0"), told("25/4"), told("1")])
        self.assertEqual(figures.order(handed, handed), [1])
        self.assertEqual(figures.shown(handed, handed), [-2])
        handed = spell("2.50")
        self.assertEqual(figures.shown(handed, handed), told("2.5 +- 2.5"))
        self.assertEqual(figures.holds(handed, handed, handed), [-3, 0, 4])

    def test_called_again_it_is_the_same(self):
        for call, whole, texts in cases():
            handed = [spell(text) for text in texts]
            answer = call(*whole, *handed)
            kept = list(answer)
            self.assertEqual(call(*whole, *handed), kept)
            # What was given back is the caller's: another call doesn't see what becomes of it.
            answer.clear()
            answer.append(77)
            self.assertEqual(call(*whole, *handed), kept)

    def test_other_calls_in_between_change_nothing(self):
        first = [call(*whole, *[spell(text) for text in texts]) for call, whole, texts in cases()]
        again = [call(*whole, *[spell(text) for text in texts]) for call, whole, texts in reversed(list(cases()))]
        self.assertEqual(first, again[::-1])

    def test_lists_of_whole_numbers_are_given_back(self):
        for call, whole, texts in cases():
            answer = call(*whole, *[spell(text) for text in texts])
            self.assertIs(type(answer), list)
            for number in answer:
                self.assertIs(type(number), int)
            if answer[0] < 0:
                self.assertEqual(len(answer), 3 if answer[0] == -3 else 1)
            elif call in (figures.order, figures.holds):
                self.assertEqual(len(answer), 1)
            else:
                self.assertEqual(len(answer), 1 + answer[0])

    def test_nothing_is_printed(self):
        with contextlib.redirect_stdout(io.StringIO()) as out, contextlib.redirect_stderr(io.StringIO()) as err:
            for call, whole, texts in cases():
                call(*whole, *[spell(text) for text in texts])
        self.assertEqual((out.getvalue(), err.getvalue()), ("", ""))


if __name__ == "__main__":
    unittest.main()
