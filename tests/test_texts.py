"""[12]: the text of a plan."""

import re

from testwatch.errors import TextError
from testwatch.plans import Plan
from testwatch.units import Mute, Quiet, Sure, Unit
from tests.helpers import CLASSES, KINDS, Case, state_of, units_of

KIND = '(?:' + '|'.join(KINDS) + ')'
FORM = re.compile(f'{KIND}(?: {KIND})*\n(?:[0-9] [0-9]\n)*')


def is_text_of_a_plan(text):
    """What [11] and [12] say of a text, written down another way."""
    if not FORM.fullmatch(text):
        return False
    first, *rest = text[:-1].split('\n')
    many = len(first.split(' '))
    pairs = [(int(line[0]), int(line[2])) for line in rest]
    in_range = all(max(pair) < many and pair[0] != pair[1] for pair in pairs)
    return many <= 9 and in_range and len(set(pairs)) == len(pairs)


def changes_of(text, signs):
    """All texts with one sign left out, added or replaced."""
    for at in range(len(text) + 1):
        yield text[:at] + text[at + 1:]
        for sign in signs:
            yield text[:at] + sign + text[at:]
            yield text[:at] + sign + text[at + 1:]


class TextTest(Case):

    def test_text(self):
        plan = Plan(Unit(), Quiet(), tests=((0, 1), (1, 0)))
        self.same(plan.text(), 'plain quiet\n0 1\n1 0\n')
        self.same(Plan(Sure()).text(), 'sure\n')
        self.same(Plan(Mute(), Mute()).text(), 'mute mute\n')
        self.same(Plan.plain(3, (2, 0), (0, 1)).text(), 'plain plain plain\n2 0\n0 1\n')

    def test_text_of_all_kinds(self):
        first = 'plain quiet mild harsh quietmild quietharsh mute sure\n'
        self.same(Plan(*units_of(*KINDS)).text(), first)
        plan = Plan(*units_of(*KINDS), tests=((7, 0), (0, 7), (4, 5)))
        self.same(plan.text(), first + '7 0\n0 7\n4 5\n')

    def test_text_again(self):
        plan = Plan.full(3)
        for _ in range(3):
            self.same(plan.text(), 'plain plain plain\n0 1\n0 2\n1 0\n1 2\n2 0\n2 1\n')


class ReadTest(Case):

    def check_both_ways(self, plan, text):
        self.same(plan.text(), text)
        again = Plan.read(text)
        self.assertIsInstance(again, Plan)
        self.assertEqual(state_of(again), state_of(plan))
        self.same((again.many, again.kinds, again.tests), (plan.many, plan.kinds, plan.tests))
        self.same(again.text(), text)

    def test_read(self):
        self.is_plan(Plan.read('plain quiet\n0 1\n1 0\n'), ('plain', 'quiet'), ((0, 1), (1, 0)))
        self.is_plan(Plan.read('sure\n'), ('sure',), ())

    def test_each_kind_alone(self):
        for kind in KINDS:
            self.check_both_ways(Plan(CLASSES[kind]()), f'{kind}\n')

    def test_all_pairs_of_kinds(self):
        for one in KINDS:
            for other in KINDS:
                units = units_of(one, other)
                self.check_both_ways(Plan(*units), f'{one} {other}\n')
                self.check_both_ways(Plan(*units, tests=((1, 0),)), f'{one} {other}\n1 0\n')
                self.check_both_ways(Plan(*units, tests=((1, 0), (0, 1))), f'{one} {other}\n1 0\n0 1\n')

    def test_each_number_of_units(self):
        for many in range(1, 10):
            kinds = [KINDS[-1 - number % 8] for number in range(many)]
            tests = [(number, number - 1) for number in range(many - 1, 0, -1)]
            lines = [' '.join(kinds)] + [f'{tester} {tested}' for tester, tested in tests]
            text = '\n'.join(lines) + '\n'
            self.check_both_ways(Plan(*units_of(*kinds), tests=tuple(tests)), text)

    def test_all_tests(self):
        text = Plan.full(9).text()
        self.assertEqual(len(text), 9 * 6 + 72 * 4)
        again = Plan.read(text)
        self.same(again.tests, Plan.full(9).tests)
        self.same(again.text(), text)

    def test_read_again(self):
        text = 'mute plain quietmild\n2 1\n0 2\n'
        self.assertEqual(state_of(Plan.read(text)), state_of(Plan.read(text)))


class TextErrorTest(Case):

    def refused(self, *things):
        for thing in things:
            with self.subTest(thing=thing):
                self.raises(TextError, Plan.read, thing)

    def test_line_feeds(self):
        self.refused('', '\n', '\n\n', 'plain', 'plain quiet', 'plain quiet\n0 1', '\nplain\n',
                     'plain\n\n', 'plain quiet\n\n0 1\n', 'plain quiet\n0 1\n\n', '\n0 1\n',
                     'plain quiet\n0 1\n\n1 0\n', 'plain quiet 0 1\n', 'plain\nquiet\n0 1\n',
                     'plain quiet\n0\n1\n', 'plain quiet\n0 1 1 0\n', '0 1\n', '0 1\nplain quiet\n',
                     'plain\nplain\n', 'plain quiet\n0 1\nplain quiet\n0 1\n')

    def test_spaces(self):
        self.refused(' plain\n', 'plain \n', ' \n', 'plain  quiet\n', 'plain quiet \n0 1\n',
                     ' plain quiet\n0 1\n', 'plain quiet\n 0 1\n', 'plain quiet\n0 1 \n',
                     'plain quiet\n0  1\n', 'plain quiet\n01\n', 'plain quiet\n \n',
                     'plain quiet\n0 1\n ', 'plain\tquiet\n', 'plain quiet\n0\t1\n', '\tplain\n',
                     'plain\t\n', 'plain quiet\n0 1\t\n', 'plain quiet\n0,1\n', 'plain,quiet\n')

    def test_kinds(self):
        self.refused('unit\n', 'Plain\n', 'PLAIN\n', 'Unit\n', 'Quiet\n', 'plainquiet\n', 'quit\n',
                     'mildquiet\n', 'quiet-mild\n', 'quietsure\n', 'harshquiet\n', 'plai\n', 'plains\n',
                     'bad\n', 'good\n', 'silent\n', 'None\n', '0\n', 'plain none\n', 'none plain\n0 1\n')

    def test_ten_kinds(self):
        self.assertEqual(Plan.read(' '.join(['plain'] * 9) + '\n').many, 9)
        self.refused(' '.join(['plain'] * 10) + '\n', ' '.join(['mute'] * 11) + '\n',
                     ' '.join(['plain'] * 10) + '\n0 1\n', ' '.join(['sure'] * 10) + '\n9 0\n')

    def test_numbers(self):
        for number in ('+1', '-1', '-0', '+0', '00', '01', '001', '10', '1_0', '1.', '1.0', '0x1',
                       'x', 'a', '', ' ', 'one', '2', '3', '8', '9', '12', '(1', '"1"'):
            self.refused(f'plain quiet\n0 {number}\n', f'plain quiet\n{number} 0\n',
                         f'plain quiet\n0 1\n{number} 0\n')
        self.refused('plain quiet\n0\n', 'plain quiet\n1\n', 'plain quiet\n0 1 0\n',
                     'plain quiet\n(0, 1)\n')

    def test_tests(self):
        self.refused('plain\n0 0\n', 'plain\n0 1\n', 'plain quiet\n0 0\n', 'plain quiet\n1 1\n',
                     'plain quiet\n0 1\n0 1\n', 'plain quiet\n0 1\n1 0\n0 1\n',
                     'plain quiet\n0 2\n', 'plain quiet\n2 0\n', 'plain quiet mute\n0 1\n3 1\n',
                     ' '.join(['plain'] * 9) + '\n0 9\n', ' '.join(['plain'] * 9) + '\n9 0\n')

    def test_other_values(self):
        text = 'plain quiet\n0 1\n'
        self.refused(b'plain\n', b'', text.encode(), None, True, False, 0, 1, 9, (), (text,), [],
                     [text], ['plain quiet', '0 1'], ('plain', 'quiet'), {}, {text: text},
                     9999999999999)

    def test_all_small_changes_of_texts(self):
        signs = ' \n\t0123789+-_.,aeln'
        for text in ('plain\n', 'mild sure\n', 'mute mild\n1 0\n0 1\n',
                     'quietharsh plain quiet\n2 0\n1 2\n0 1\n'):
            for changed in changes_of(text, signs):
                if is_text_of_a_plan(changed):
                    self.assertEqual(Plan.read(changed).text(), changed)
                else:
                    self.refused(changed)

    def test_texts_of_nine_units_with_changed_tests(self):
        first = ' '.join(KINDS + ('plain',)) + '\n'
        for one in range(10):
            for other in range(10):
                text = f'{first}3 4\n{one} {other}\n'
                if is_text_of_a_plan(text):
                    self.same(Plan.read(text).tests, ((3, 4), (one, other)))
                else:
                    self.refused(text)
