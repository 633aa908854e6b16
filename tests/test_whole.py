"""The whole promise: books of devices, their answers, claims about them, and the papers of these."""

import random
import unittest

from everydue.agendas import Watch, clashes
from everydue.booktexts import format_book, format_claim, format_deeds, format_paper, parse_book, parse_claim, parse_deeds, parse_paper
from everydue.claims import decide, judge_against, judge_claim
from everydue.devices import Device
from everydue.errors import KindsDiffer, NoPaper, TooLarge
from everydue.exprtexts import format_expression, parse_expression
from everydue.papers import judge_paper, paper_of
from tests.plain_books import NAMES
from tests.plain_rules import some_rule
from tests.plain_told import PlainTold, some_told_expression, within_reach
from tests.plain_zones import LITTLE_DAYS, PlainMonths, some_fitting_zone
from tests.some_sets import moments_within, some_dayset, within
from tests.test_books import held

# All is told in so many days around day 0; what is compared lies in fewer. What is rare may ask for the greater reach.
REACH, FAR, NEAR = 260, 1500, 40


class WholeTest(unittest.TestCase):

    def some_devices(self, chance, calendar):
        """Two devices, which sent one another all deeds, with books whose entries tell the kinds that others ask for."""
        devices = [Device(calendar, 3), Device(calendar, 8)]
        months = PlainMonths(calendar, 600)
        names = {}
        for zone in ("p", "q"):
            devices[0].make(("put zone", zone, some_fitting_zone(chance, calendar, months)))
        for name in NAMES[:4]:
            kind = chance.choice(["days", "moments"])
            expression = some_told_expression(chance, calendar, names, some_rule, some_dayset, kind)
            device = chance.choice(devices)
            device.receive([deed for other in devices for deed in other.deeds()])
            device.make(("put", name, expression))
            if chance.random() < 0.3:
                device.make(("drop", name))
                device.undo_last()
            names[name] = kind
        deeds = [deed for device in devices for deed in device.deeds()]
        for device in devices:
            chance.shuffle(deeds)
            device.receive(deeds)
        return devices

    def test_the_whole(self):
        chance = random.Random(1)
        told = {}
        for _ in range(120):
            calendar = chance.choice(LITTLE_DAYS)
            one, two = self.some_devices(chance, calendar)
            book, other = one.book(), two.book()
            self.assertEqual(held(book), held(other))
            self.assertEqual(one.deeds(), two.deeds())
            self.assertEqual(parse_deeds(format_deeds(one.deeds())), one.deeds())
            calendar, zones, entries = held(book)
            plain = PlainTold(calendar, zones, entries, REACH)
            answers = {name: book.answer(name) for name in book.names()}
            for name, answer in answers.items():
                self.assertEqual(other.answer(name), answer)
                told[answer[0]] = told.get(answer[0], 0) + 1
                if answer[0] in ("days", "moments") and not self.is_told(plain, entries[name], answer):
                    far = PlainTold(calendar, zones, entries, FAR)
                    self.assertTrue(self.is_told(far, entries[name], answer), (calendar, zones, entries, name))
            self.assertEqual({name: parse_book(format_book(book)).answer(name) for name in answers}, answers)
            watch = Watch(book, 0)
            self.assertEqual(watch.clashes(), clashes(book, 0))
            sets = {name: answer for name, answer in answers.items() if answer[0] in ("days", "moments")}
            self.try_claims(chance, calendar, zones, sets, entries, told)
        self.assertGreater(min(told[key] for key in ("days", "moments", "true", "false")), 50, told)

    def is_told(self, plain, expression, answer):
        """Whether an answer holds near day 0 what the expression tells there, by its plain meaning."""
        kind, members = plain.told(expression)
        self.assertEqual(kind, answer[0])
        if kind == "days":
            now = within(answer[1], range(-NEAR, NEAR))
        else:
            now = moments_within(plain.minutes, answer[1], range(-NEAR * plain.minutes, NEAR * plain.minutes))
        return now == within_reach(kind, members, NEAR, plain.minutes)

    def try_claims(self, chance, calendar, zones, answers, entries, told):
        for name in answers:
            expression = entries[name]
            if any(row not in answers for row in entries):
                return
            paper = paper_of(calendar, zones, answers, expression)
            self.assertEqual(paper[0], answers[name])
            self.assertIsNone(judge_paper(calendar, zones, answers, expression, parse_paper(format_paper(paper))))
            self.assertEqual(parse_expression(format_expression(expression)), expression)
            two, k = ("name", chance.choice(list(answers))), chance.randint(1, 5)
            for claim in (("in", expression, two), ("same", two, expression), ("apart", expression, two, k), ("gap", expression, k),
                          ("many", expression, -5, 5, k), ("next", expression, k, chance.choice([None, k, k + 1]))):
                self.assertEqual(parse_claim(format_claim(claim)), claim)
                try:
                    found = decide(calendar, zones, answers, claim, 3)
                except (KindsDiffer, TooLarge, NoPaper) as error:
                    told[type(error).__name__] = True
                    continue
                told[found[0]] = told.get(found[0], 0) + 1
                self.assertIs(judge_claim(calendar, zones, answers, claim, found[-1]), found[0] == "true")
                if found[0] == "false":
                    self.assertTrue(judge_against(calendar, zones, answers, claim, found[1], found[2]))


if __name__ == "__main__":
    unittest.main()
