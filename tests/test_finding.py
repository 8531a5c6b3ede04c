"""[13] finding hidden rows."""

import random
import time
import unittest
from itertools import combinations, product

from quietrows.errors import BadStream, Large, NoQuestion, NotKnown, Untrue
from quietrows.finding import Finder
from quietrows.forms import Normal, normal_form, row_of
from quietrows.members import Delay, First, Last, Limit
from quietrows.rows import Row, told_times
from tests import oracle

KINDS = (Last, First, Limit, Delay)


def play(finder, row):
    """Answer all questions; return the streams that were asked."""
    asked = []
    stream = finder.ask()
    while stream is not None:
        asked.append(stream)
        finder.take_answer(told_times(row, stream))
        stream = finder.ask()
    return asked


def some_row(chosen, most, many):
    made = [chosen.choice(KINDS) for _ in range(many)]
    return Row([kind(chosen.randint(0 if kind is Delay else 1, most)) for kind in made])


def rising_row(chosen, most, many):
    """A row in which most members are records."""
    many = min(many, most - 1)
    return Row([chosen.choice(KINDS[:3])(quiet) for quiet in sorted(chosen.sample(range(2, most + 1), many))])


def all_forms(most):
    """The normal forms of all rows that a finder may look for."""
    found = []
    for kinds in product((None, "last", "first", "limit"), repeat=most - 1):
        records = tuple((kind, quiet) for quiet, kind in enumerate(kinds, 2) if kind)
        own = sum(quiet for kind, quiet in records if kind == "last")
        found += [Normal(records, own + rest) for rest in range((12 - len(records)) * most + 1)]
    return found


def stirred(chosen, times):
    """Times that are not these, made from them in one of many ways."""
    found = list(times)
    way = chosen.randrange(6)
    if way == 0:
        found.append((found or [0])[-1] + chosen.randint(1, 70))
    elif way == 1 and found:
        del found[chosen.randrange(len(found))]
    elif way == 2 and found:
        found[chosen.randrange(len(found))] += chosen.choice((-1, 1))
    elif way == 3:
        found = [one + chosen.choice((-2, -1, 1, 2)) for one in found]
    elif way == 4:
        found = sorted(set(found) | {chosen.randint(-3, 90), chosen.randint(-3, 90)})
    else:
        found = []
    return found if all(one < two for one, two in zip(found, found[1:])) else found[:1]


class Found(unittest.TestCase):

    def check(self, row, most):
        finder = Finder(most)
        asked = play(finder, row)
        self.assertEqual(finder.known_form(), normal_form(row), vars(row))
        self.assertLessEqual(len(asked), 40 + 20 * most)
        for stream in asked:
            self.assertTrue(1 <= len(stream) <= 2000)
            self.assertTrue(all(one < two for one, two in zip(stream, stream[1:])))

    def test_rows_of_every_kind_of_member_alone_and_of_none(self):
        for most in (1, 2, 3, 7, 60):
            self.check(Row([]), most)
            for kind in KINDS:
                for quiet in {1, 2, most - 1, most} & set(range(1, most + 1)):
                    self.check(Row([kind(quiet)]), most)
            self.check(Row([Delay(0)]), most)

    def test_all_rows_of_two_and_three_small_members(self):
        members = [kind(quiet) for kind in KINDS for quiet in (1, 2, 3, 4)]
        for pair in product(members, repeat=2):
            self.check(Row(pair), 4)
        members = [kind(quiet) for kind in KINDS[:3] for quiet in (2, 3, 4)] + [Delay(3)]
        for three in product(members, repeat=3):
            self.check(Row(three), 4)

    def test_all_records_with_small_quiets(self):
        for form in all_forms(5)[::7]:
            self.check(row_of(form), 5)

    def test_some_rows_of_up_to_twelve_members(self):
        for seed in range(300):
            chosen = random.Random(seed)
            most = chosen.choice((1, 2, 3, 5, 12, 30, 60))
            self.check(some_row(chosen, most, chosen.randint(0, 12)), most)
            self.check(rising_row(chosen, most, chosen.randint(0, 12)), most)

    def test_rows_of_many_records_of_one_kind(self):
        for kind in KINDS[:3]:
            self.check(Row([kind(quiet) for quiet in range(2, 14)]), 13)
            self.check(Row([kind(quiet) for quiet in range(49, 61)]), 60)
            self.check(Row([kind(quiet) for quiet in range(5, 61, 5)]), 60)
            for low in (2, 30):
                self.check(Row([kind(low), Delay(60)] * 5 + [kind(60), Delay(60)]), 60)

    def test_rows_with_the_greatest_delay(self):
        for most in (1, 2, 12, 60):
            finder = Finder(most)
            asked = play(finder, Row([Delay(most)] * 12))
            self.assertEqual(finder.known_form(), Normal((), 12 * most))
            # No member is left that could be a record but for a Last of the most.
            self.assertLessEqual(len(asked), 2)
            self.check(Row([Delay(most)] * 11 + [Last(most)]), most)
            self.check(Row([Delay(most)] * 11 + [Limit(most)]), most)

    def test_nothing_more_is_asked_when_all_is_known(self):
        # Twelve records are known: whatever is ahead of them, there can be no more.
        finder = Finder(60)
        row = Row([First(quiet) for quiet in range(49, 61)])
        asked = play(finder, row)
        self.assertEqual(len(asked), 13)
        self.assertIsNone(finder.ask())


class Questions(unittest.TestCase):

    def test_the_same_question_until_it_is_answered(self):
        row = Row([First(3), Last(5), Limit(9)])
        finder = Finder(10)
        stream = finder.ask()
        while stream is not None:
            kept = list(stream)
            stream.append(stream[-1] + 1)
            self.assertEqual(finder.ask(), kept)
            self.assertIsNot(finder.ask(), finder.ask())
            for untrue in ([], [kept[0] - 1], kept + [kept[-1] + 1, kept[-1] + 2]):
                with self.assertRaises(Untrue):
                    finder.take_answer(untrue)
                self.assertEqual(finder.ask(), kept)
            for bad in (None, "1", [1, 1], [True]):
                with self.assertRaises(BadStream):
                    finder.take_answer(bad)
                self.assertEqual(finder.ask(), kept)
            finder.take_answer(tuple(told_times(row, kept)))
            stream = finder.ask()
        self.assertEqual(finder.known_form(), normal_form(row))

    def test_questions_are_the_same_for_the_same_answers(self):
        row = Row([First(3), Last(5), Limit(9)])
        self.assertEqual(play(Finder(10), row), play(Finder(10), row))

    def test_two_finders_by_turns(self):
        rows = [Row([First(3), Last(5)]), Row([Last(2), Limit(6), Delay(1)])]
        finders = [Finder(6), Finder(6)]
        alone = [play(Finder(6), row) for row in rows]
        for one, two in zip(*alone):
            self.assertEqual([finder.ask() for finder in finders], [one, two])
            for finder, row, stream in zip(finders, rows, (one, two)):
                finder.take_answer(told_times(row, stream))
        for finder, row in zip(finders, rows):
            play(finder, row)
            self.assertEqual(finder.known_form(), normal_form(row))

    def test_answers_without_a_question(self):
        finder = Finder(3)
        for times in ([0], None, [1, 1], "ab"):
            with self.assertRaises(NoQuestion):
                finder.take_answer(times)
        row = Row([Limit(3)])
        stream = finder.ask()
        while stream is not None:
            finder.take_answer(told_times(row, stream))
            for times in ([0], None):
                with self.assertRaises(NoQuestion) as caught:
                    finder.take_answer(times)
                self.assertEqual(vars(caught.exception), {})
            stream = finder.ask()
        with self.assertRaises(NoQuestion):
            finder.take_answer([0])
        self.assertEqual(finder.known_form(), Normal((("limit", 3),), 0))

    def test_bad_answers_tell_their_place(self):
        finder = Finder(3)
        finder.ask()
        for times, place in ((None, -1), ("12", -1), (5, -1), ([True], 0), ([0, None], 1), ((1, 1), 1)):
            with self.assertRaises(BadStream) as caught:
                finder.take_answer(times)
            self.assertEqual(caught.exception.place, place)

    def test_the_form_is_not_known_before_the_end(self):
        row = Row([Limit(3), Delay(4), Last(5)])
        finder = Finder(5)
        with self.assertRaises(NotKnown):
            finder.known_form()
        stream = finder.ask()
        while stream is not None:
            with self.assertRaises(NotKnown) as caught:
                finder.known_form()
            self.assertEqual(vars(caught.exception), {})
            finder.take_answer(told_times(row, stream))
            # Also between an answer and the next question.
            known = True
            try:
                finder.known_form()
            except NotKnown:
                known = False
            stream = finder.ask()
            self.assertIs(known, stream is None)
        self.assertEqual(finder.known_form(), normal_form(row))
        finder.known_form().records = ()
        self.assertEqual(finder.known_form(), normal_form(row))
        self.assertIsNone(finder.ask())

    def test_the_most(self):
        for most in (0, 61, -1, 10 ** 30, -10 ** 30):
            with self.assertRaises(Large) as caught:
                Finder(most)
            self.assertEqual(caught.exception.count, most)


class UntrueAnswers(unittest.TestCase):

    def test_an_answer_is_refused_exactly_if_no_row_fits_all_answers(self):
        for most in (1, 2, 3):
            forms = all_forms(most)
            tells = [(form, row_of(form)) for form in forms]
            for seed in range(40):
                chosen = random.Random(seed)
                fitting, finder = tells, Finder(most)
                stream = finder.ask()
                while stream is not None:
                    times = told_times(chosen.choice(chosen.choice((fitting, tells)))[1], stream)
                    for answer in [stirred(chosen, times) for _ in range(6)] + [times]:
                        left = [(form, row) for form, row in fitting if told_times(row, stream) == answer]
                        if left:
                            finder.take_answer(answer)
                            fitting = left
                            break
                        with self.assertRaises(Untrue):
                            finder.take_answer(answer)
                        self.assertEqual(finder.ask(), stream)
                    else:
                        finder.take_answer(told_times(fitting[0][1], stream))
                        fitting = [(form, row) for form, row in fitting
                                   if told_times(row, stream) == told_times(fitting[0][1], stream)]
                    stream = finder.ask()
                self.assertEqual([form for form, _ in fitting], [finder.known_form()])

    def test_never_a_form_that_does_not_fit(self):
        for seed in range(250):
            chosen = random.Random(seed)
            most = chosen.choice((2, 3, 6, 20, 60))
            make = chosen.choice((some_row, rising_row))
            row, other = make(chosen, most, chosen.randint(0, 12)), make(chosen, most, chosen.randint(0, 12))
            finder, answers = Finder(most), []
            stream = finder.ask()
            while stream is not None:
                for answer in (told_times(other, stream) if chosen.random() < 0.2 else stirred(chosen, stream),
                               stirred(chosen, told_times(row, stream)), told_times(row, stream)):
                    if chosen.random() < 0.3:
                        continue
                    try:
                        finder.take_answer(answer)
                    except Untrue:
                        self.assertEqual(finder.ask(), stream)
                        continue
                    answers.append((stream, answer))
                    break
                else:
                    if chosen.random() < 0.02:
                        break
                    continue
                stream = finder.ask()
            if stream is None:
                form = finder.known_form()
                for asked, answer in answers:
                    self.assertEqual(told_times(row_of(form), asked), answer)
                self.assertLessEqual(len(form.records), 12)
                self.assertTrue(all(2 <= quiet <= most for _, quiet in form.records))

    def test_untrue_first_answers(self):
        for most in (1, 5, 60):
            finder = Finder(most)
            self.assertEqual(len(finder.ask()), 1)
            begin = finder.ask()[0]
            for untrue in ([], [begin - 1], [begin + 12 * most + 1], [begin, begin + 1], [begin, begin + 1, begin + 2]):
                with self.assertRaises(Untrue) as caught:
                    finder.take_answer(untrue)
                self.assertEqual(vars(caught.exception), {})
            finder.take_answer([begin + 12 * most])
            play(finder, Row([Delay(most)] * 12))
            self.assertEqual(finder.known_form(), Normal((), 12 * most))

    def test_untrue_last_answers(self):
        row = Row([Last(2), First(3), Delay(1)])
        asked = play(Finder(3), row)
        finder = Finder(3)
        for stream in asked[:-1]:
            self.assertEqual(finder.ask(), stream)
            finder.take_answer(told_times(row, stream))
        last = finder.ask()
        forms = [Normal(records, 3) for records in ((("first", 3),), (("first", 2), ("first", 3)),
                                                    (("limit", 2), ("first", 3)), (("last", 2), ("first", 3)))]
        answers = [told_times(row_of(form), last) for form in forms]
        self.assertEqual(len({tuple(answer) for answer in answers}), 4)
        for untrue in [answer[:-1] for answer in answers] + [answer + [answer[-1] + 9] for answer in answers] + [last]:
            if untrue not in answers:
                with self.assertRaises(Untrue):
                    finder.take_answer(untrue)
                with self.assertRaises(NotKnown):
                    finder.known_form()
        finder.take_answer(answers[3])
        self.assertEqual(finder.known_form(), forms[3])

    def test_a_row_of_more_members_is_refused(self):
        for row in (Row([First(20)] + [Delay(20)] * 12), Row([Last(19), Limit(20)] + [Delay(20)] * 11),
                    Row([Delay(20)] * 13)):
            finder = Finder(20)
            with self.assertRaises(Untrue):
                play(finder, row)
        # Of thirteen records nobody asks for the least one, as twelve fit all answers that were asked for.
        finder = Finder(20)
        play(finder, Row([First(quiet) for quiet in range(2, 15)]))
        self.assertEqual(finder.known_form().records, tuple(("first", quiet) for quiet in range(3, 15)))


class Soon(unittest.TestCase):

    def test_games_are_short(self):
        begin = time.monotonic()
        for seed in range(100):
            chosen = random.Random(seed)
            play(Finder(60), rising_row(chosen, 60, 12))
        self.assertLess(time.monotonic() - begin, 10)
        begin = time.monotonic()
        for _ in range(100):
            play(Finder(5), Row([Last(2), First(3), Limit(5)]))
        self.assertLess(time.monotonic() - begin, 2)

    def test_all_unlike_rows_of_records_are_told_unlike(self):
        # The oracle, not the package, tells what the hidden row tells.
        for quiets in combinations(range(2, 7), 3):
            for kinds in product(("last", "first", "limit"), repeat=3):
                pairs = list(zip(kinds, quiets))
                finder = Finder(6)
                stream = finder.ask()
                while stream is not None:
                    finder.take_answer([one[1] for one in oracle.told(pairs, stream)])
                    stream = finder.ask()
                self.assertEqual(finder.known_form().records, tuple(pairs))
