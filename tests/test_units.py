"""[10]: the kinds of units."""

from testwatch.errors import VerdictError
from testwatch.units import Harsh, Mild, Mute, Quiet, QuietHarsh, QuietMild, Sure, Unit
from tests.helpers import CLASSES, KINDS, WORDS, Case

NO_BOOLS = (0, 1, -1, 2, None, '', 'bad', 'good', 'True', 'False', (), (True,), (False,),
            [], [True], {}, {True: True})
NO_VERDICTS = ('silent', '', 'Bad', 'GOOD', 'bad ', ' good', 'good\n', 'b', 'badgood', 'a',
               None, True, False, 0, 1, (), ('bad',), ('bad', 'good'), [], ['good'],
               ['bad', 'good'], {}, {'bad': True})


class KindsTest(Case):

    def test_names_of_the_kinds(self):
        self.assertEqual(Unit.KIND, 'plain')
        self.assertEqual(Quiet.KIND, 'quiet')
        self.assertEqual(Mild.KIND, 'mild')
        self.assertEqual(Harsh.KIND, 'harsh')
        self.assertEqual(QuietMild.KIND, 'quietmild')
        self.assertEqual(QuietHarsh.KIND, 'quietharsh')
        self.assertEqual(Mute.KIND, 'mute')
        self.assertEqual(Sure.KIND, 'sure')
        for kind in KINDS:
            self.assertEqual(CLASSES[kind]().KIND, kind)

    def test_words(self):
        self.same(Unit().words(), ('bad', 'good'))
        self.same(Quiet().words(), ('bad', 'good', 'silent'))
        self.same(Mild().words(), ('good',))
        self.same(Harsh().words(), ('bad',))
        self.same(QuietMild().words(), ('good', 'silent'))
        self.same(QuietHarsh().words(), ('bad', 'silent'))
        self.same(Mute().words(), ('silent',))
        self.same(Sure().words(), ())

    def test_words_again(self):
        for kind in KINDS:
            unit = CLASSES[kind]()
            for _ in range(3):
                self.same(unit.words(), WORDS[kind])

    def test_which_class_is_below_which(self):
        above = {
            'plain': (),
            'quiet': (),
            'mild': (),
            'harsh': (),
            'quietmild': ('quiet', 'mild'),
            'quietharsh': ('quiet', 'harsh'),
            'mute': ('quiet', 'mild', 'harsh'),
            'sure': ('mild', 'harsh'),
        }
        for kind in KINDS:
            for other in KINDS:
                with self.subTest(kind=kind, other=other):
                    expected = other in ('plain', kind) or other in above[kind]
                    self.assertEqual(isinstance(CLASSES[kind](), CLASSES[other]), expected)

    def test_a_unit_is_equal_to_itself(self):
        for kind in KINDS:
            unit = CLASSES[kind]()
            self.assertTrue(unit == unit)


class AllowedTest(Case):

    def test_a_bad_unit_may_give_its_words(self):
        for kind in KINDS:
            for verdict in ('bad', 'good'):
                with self.subTest(kind=kind, verdict=verdict):
                    self.same(CLASSES[kind]().allowed(True, verdict), WORDS[kind])

    def test_a_good_unit_gives_the_verdict(self):
        for kind in KINDS:
            for verdict in ('bad', 'good'):
                with self.subTest(kind=kind, verdict=verdict):
                    self.same(CLASSES[kind]().allowed(False, verdict), (verdict,))

    def test_is_bad_must_be_a_bool(self):
        for kind in KINDS:
            for thing in NO_BOOLS:
                for verdict in ('bad', 'good'):
                    with self.subTest(kind=kind, thing=thing):
                        self.raises(VerdictError, CLASSES[kind]().allowed, thing, verdict)

    def test_verdict_must_be_a_verdict(self):
        for kind in KINDS:
            for thing in NO_VERDICTS:
                for is_bad in (True, False):
                    with self.subTest(kind=kind, thing=thing, is_bad=is_bad):
                        self.raises(VerdictError, CLASSES[kind]().allowed, is_bad, thing)

    def test_both_wrong(self):
        for kind in KINDS:
            for is_bad in NO_BOOLS:
                for verdict in NO_VERDICTS:
                    self.raises(VerdictError, CLASSES[kind]().allowed, is_bad, verdict)
            self.raises(VerdictError, CLASSES[kind]().allowed, 'bad', True)

    def test_a_call_that_raises_changes_nothing(self):
        for kind in KINDS:
            unit = CLASSES[kind]()
            self.raises(VerdictError, unit.allowed, 1, 'bad')
            self.raises(VerdictError, unit.allowed, True, 'silent')
            self.same(unit.words(), WORDS[kind])
            self.same(unit.allowed(True, 'bad'), WORDS[kind])
            self.same(unit.allowed(False, 'bad'), ('bad',))
            self.assertEqual(unit.KIND, kind)

    def test_arguments_are_not_modified(self):
        things = (['bad', 'good'], [], [['bad']], {'bad': ['good']})
        for kind in KINDS:
            for thing in things:
                before = repr(thing)
                self.raises(VerdictError, CLASSES[kind]().allowed, True, thing)
                self.raises(VerdictError, CLASSES[kind]().allowed, thing, 'bad')
                self.raises(VerdictError, Unit.verdict, thing)
                self.assertEqual(repr(thing), before)


class VerdictTest(Case):

    def test_verdict(self):
        self.same(Unit.verdict(True), 'bad')
        self.same(Unit.verdict(False), 'good')

    def test_verdict_off_an_object_and_a_class_below(self):
        for kind in KINDS:
            self.same(CLASSES[kind]().verdict(True), 'bad')
            self.same(CLASSES[kind].verdict(False), 'good')

    def test_verdict_of_what_is_not_a_bool(self):
        for thing in NO_BOOLS:
            with self.subTest(thing=thing):
                self.raises(VerdictError, Unit.verdict, thing)
