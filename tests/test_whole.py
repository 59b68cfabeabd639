"""What the document promises over the whole program: one question, asked in several files, has one answer."""

import itertools
import random
import unittest

from slowship.air import air, behind_plan, greatest_air, least_air, moved_plan, plan_times
from slowship.board import Board
from slowship.cargo import missed_span, missed_way
from slowship.changes import moved_by, sure_by_waits
from slowship.daily import days_web, late_on
from slowship.days import is_kept, most_behind, played
from slowship.delays import late_by, late_times, least_late, most_late
from slowship.desk import replies
from slowship.edits import edited, edits_to, felt_events, is_felt
from slowship.judge import in_run, stands
from slowship.lean import can_go, deciding_way, needless
from slowship.order import can_be_last, order_pairs, order_paper, surely_ahead
from slowship.rules import is_safe, is_tight, most_early, tight_rule
from slowship.same import alike_at, alike_events, later_span
from slowship.served import held, unsure_pairs, unsure_way
from slowship.spreads import greatest_spread, late_way, late_ways, least_spread, never_behind, spread
from slowship.texts import names_text, number_text, pairs_in, ranges_in, sheet_in, sheet_text, web_in, web_text, with_line
from slowship.times import greatest_time, least_time, slow_run, time_of, times
from slowship.tugs import sure_turns, tugs_in, turn_late
from slowship.webs import in_turn, with_arc
from tests import test_cargo, test_days, test_rules, test_served, test_tugs
from tests.support import all_runs, small_cases, small_pairs

ALONE = (("alone",), ())


def fixed(run):
    """The RANGES that have just this RUN."""
    return tuple([(name, length, length) for name, length in run])


def cases(seed, many):
    return small_cases(seed, many, "pqrs", "abcd")


class OneRun(unittest.TestCase):
    def test_times(self):
        for web, ranges in cases(1601, 15):
            for run in all_runs(ranges)[::17]:
                found = times(web, run)
                self.assertEqual(late_times(web, run, ()), found)
                self.assertEqual(plan_times(web, run, (), ()), found)
                self.assertEqual(plan_times(web, run, found, ()), found)
                self.assertEqual(behind_plan(web, fixed(run), found, ()), ())
                for event, time in found:
                    for rows in (least_time(web, fixed(run), event), greatest_time(web, fixed(run), event), time_of(web, run, event)):
                        self.assertEqual(rows, time)
                    # An EVENT into which no ARC leads happens at 0: so a time is a spread behind it.
                    self.assertEqual(spread(web, event, ALONE, ("alone",), run), time)
                    self.assertEqual(greatest_spread(web, event, ALONE, ("alone",), fixed(run)), time)

    def test_pairs(self):
        for web, ranges in cases(1602, 12):
            for run in all_runs(ranges)[::23]:
                for one, other in itertools.product(web[0], repeat=2):
                    found = spread(web, one, web, (other,), run)
                    self.assertEqual(least_spread(web, one, web, (other,), fixed(run)), found)
                    self.assertEqual(greatest_spread(web, one, web, (other,), fixed(run)), found)
                    self.assertIs(surely_ahead(web, fixed(run), one, other), found <= 0)
                    self.assertIs(stands(in_run(("ahead", web, ranges, one, other), run)), found <= 0)
                    number = air(web, run, one, other)
                    self.assertEqual(least_air(web, fixed(run), one, other), number)
                    self.assertEqual(greatest_air(web, fixed(run), one, other), number)
                    late = late_by(web, run, ((one, 2),), other)
                    self.assertEqual(most_late(web, fixed(run), ((one, 2),), other), late)
                    self.assertEqual(late, 0 if number is None else max(0, 2 - number))
                    if one != other:
                        self.assertEqual(most_early(web, fixed(run), one, ((other, 3),)), found - 3)

    def test_tugs(self):
        for web, ranges, tows in test_tugs.tow_cases(1603, 12, 3):
            for run in all_runs(ranges)[::11]:
                turns = [turn for turn in sure_turns(web, fixed(run), tows, 1)]
                self.assertTrue(tugs_in(web, tows, 1, run) <= len(tows))
                self.assertTrue(set(sure_turns(web, ranges, tows, 1)) <= set(turns))


class AllRuns(unittest.TestCase):
    def test_order(self):
        for web, ranges in cases(1604, 25):
            pairs = order_pairs(web, ranges)
            for one, other in itertools.permutations(web[0], 2):
                ahead = surely_ahead(web, ranges, one, other)
                answers = [
                    never_behind(web, one, web, (other,), ranges, 0), greatest_spread(web, one, web, (other,), ranges) <= 0,
                    least_spread(web, other, web, (one,), ranges) >= 0, late_way(web, one, web, (other,), ranges, 0) is None,
                    order_paper(web, ranges, one, other) is None, (one, other) in pairs, is_safe(web, ranges, one, ((other, 0),)),
                    is_tight(web, ranges, other, ((one, 0),)), stands(("ahead", web, ranges, one, other)),
                    stands(("behind", web, one, web, (other,), ranges, 0)), stands(("safe", web, ranges, one, ((other, 0),))),
                    most_early(web, ranges, one, ((other, 0),)) <= 0, tight_rule(web, ranges, other, (one,))[0][1] >= 0,
                ]
                self.assertEqual(answers, [ahead] * len(answers))
                last = can_be_last(web, ranges, (min(one, other), max(one, other)))
                self.assertIs(one in last, greatest_spread(web, one, web, (other,), ranges) >= 0)

    def test_numbers(self):
        for web, ranges in cases(1605, 25):
            for one, other in itertools.permutations(web[0], 2):
                most = greatest_spread(web, one, web, (other,), ranges)
                self.assertEqual(most, -least_spread(web, other, web, (one,), ranges))
                self.assertEqual(most, most_early(web, ranges, one, ((other, 0),)))
                self.assertEqual(most, -tight_rule(web, ranges, other, (one,))[0][1])
                least = least_air(web, ranges, one, other)
                self.assertEqual(most_late(web, ranges, ((one, 5),), other), 0 if least is None else max(0, 5 - least))
                most = greatest_air(web, ranges, one, other)
                self.assertEqual(least_late(web, ranges, ((one, 5),), other), 0 if most is None else max(0, 5 - most))
                # A PLAN of the greatest times is the least one that is kept.
                plan = ((min(one, other), 0), (max(one, other), 0))
                moved = tuple([(event, greatest_time(web, ranges, event)) for event, _ in plan])
                self.assertEqual(moved_plan(web, ranges, plan, ()), moved)

    def test_same(self):
        for one, other, ranges in small_pairs(1606, 40):
            alike = alike_events(one, other, ranges)
            edits = edits_to(one, other)
            self.assertEqual(edited(one, edits), other)
            self.assertEqual(felt_events(one, ranges, edits), tuple([event for event in one[0] if event not in alike]))
            for event in one[0]:
                answers = [alike_at(one, other, ranges, event), later_span(one, other, ranges, event) == (0, 0),
                           not is_felt(one, ranges, edits, (event,)), stands(("alike", one, other, ranges, event)),
                           stands(("unfelt", one, ranges, edits, (event,)))]
                self.assertEqual(answers, [event in alike] * 5)

    def test_needless(self):
        for web, ranges in cases(1607, 40):
            free = needless(web, ranges)
            for name, *_ in web[1]:
                out = (("out", name),)
                answers = [can_go(web, ranges, (name,)), deciding_way(web, ranges, name) is None,
                           felt_events(web, ranges, out) == (), stands(("needless", web, ranges, name)),
                           stands(("unfelt", web, ranges, out, web[0]))]
                self.assertEqual(answers, [name in free] * 5)

    def test_harbours(self):
        for harbour, orders, ranges in test_served.cases(1608, 15):
            unsure = unsure_pairs(harbour, orders, ranges)
            for berth, ahead, behind, number in held(harbour, orders, ranges):
                answers = [number > 0, unsure_way(harbour, orders, ranges, berth, ahead) is not None,
                           not stands(("come", harbour, orders, ranges, berth, ahead))]
                self.assertEqual(answers, [(berth, ahead, behind) in unsure] * 3)

    def test_cargo(self):
        for web, ranges, cargo in test_cargo.cases(1609, 20, 3):
            comes, goes = {ride[0]: ride[2] for ride in cargo[0]}, {ride[0]: ride[1] for ride in cargo[0]}
            sure = sure_by_waits(web, ranges, cargo, ())
            for name, one, other, minutes in cargo[1]:
                span = missed_span(web, ranges, cargo, name)
                events = comes[one], web, (goes[other],), ranges
                self.assertEqual(span, (least_spread(web, *events) + minutes, greatest_spread(web, *events) + minutes))
                answers = [span[1] <= 0, missed_way(web, ranges, cargo, name) is None, stands(("change", web, ranges, cargo, name)),
                           stands(("journey", web, ranges, (cargo[0], ((name, one, other, minutes),)), one, other))]
                self.assertEqual(answers, [name in sure] * 4)
                for event in web[0]:
                    self.assertEqual(moved_by(web, ranges, cargo, (), event), (0, 0))

    def test_tugs(self):
        for web, ranges, tows in test_tugs.tow_cases(1610, 15, 3):
            rows = {tow[0]: tow for tow in tows}
            for one, other in itertools.permutations(rows, 2):
                late = turn_late(web, ranges, tows, 2, one, other)
                if late is not None:
                    self.assertEqual(late, greatest_spread(web, rows[one][2], web, (rows[other][1],), ranges) + 2)
                    self.assertIs((one, other) in sure_turns(web, ranges, tows, 2), late <= 0)

    def test_days(self):
        for daily, ranges in test_days.cases(1611, 40):
            web, wide = days_web(daily, ranges, 5)
            told = dict(daily[1])
            for event in told:
                late = [greatest_time(web, wide, event + mark) - told[event] - day * daily[0] for day, mark in enumerate("abcde")]
                most = most_behind(daily, ranges, event)
                self.assertTrue(most is None or max(late) <= most)
                if all(test_days.plain_air(daily, ranges, arc[0]) >= 0 for arc in daily[2]):
                    self.assertEqual((set(late), most), ({0}, 0))
                    self.assertEqual(late_on(daily, ranges, (event, 0), 4), ())
            self.assertIs(stands(("kept", daily, ranges)), is_kept(daily, ranges))
            runs = [tuple([(name, high) for name, _, high in ranges])] * 5
            row = dict(played(daily, runs)[4])
            self.assertEqual(row, {event: greatest_time(web, wide, event + "e") for event in told})

    def test_rules(self):
        for web, ranges, event, rule in test_rules.cases(1612, 30):
            # What the RULE tells is an EVENT more, with an ARC from each that is seen.
            more = max(0, *[-number for _, number in rule])
            other, wide = (tuple(sorted([*web[0], "told"])), web[1]), ranges
            for place, (seen, number) in enumerate(rule):
                other = with_arc(other, "told" + "xyz"[place], seen, "told")
                wide = tuple(sorted([*wide, ("told" + "xyz"[place], number + more, number + more)]))
            self.assertEqual(most_early(web, ranges, event, rule), greatest_spread(web, event, other, ("told",), wide) + more)


class OneWeb(unittest.TestCase):
    """A WEB by hand, from its text, on a Board, at the desk."""

    def made(self, web, ranges, chance):
        """The lines that make it, in some order, and the Board that they make."""
        events = list(web[0])
        chance.shuffle(events)
        arcs = [(*arc, *[row[1:] for row in ranges if row[0] == arc[0]][0]) for arc in web[1]]
        chance.shuffle(arcs)
        lines, board = [], Board()
        for event in events:
            lines.append("come " + event)
            board.come(event)
        for name, ahead, behind, low, high in arcs:
            lines.append(f"wait {name} {ahead} {behind} {low} {high}")
            board.wait(name, ahead, behind, low, high)
        return lines, board

    def test_made(self):
        chance = random.Random(1613)
        for web, wide in cases(1613, 25):
            ranges = tuple([row for row in wide if row[0] in [arc[0] for arc in web[1]]])
            lines, board = self.made(web, ranges, chance)
            self.assertEqual((board.web(), board.ranges()), (web, ranges))
            self.assertEqual(sheet_in(sheet_text((web, ranges))), (board.web(), board.ranges()))
            found = replies("\n".join([*lines, "web", "ranges", "turn", "many"]))[-4:]
            self.assertEqual((web_in(found[0]), ranges_in(found[1])), (web, ranges))
            self.assertEqual(found[2:], [names_text(in_turn(web)), number_text(len(web[1]))])
            sheet = (web[0], ()), ()
            for line in sheet_text((web, ranges)).split("\n")[1:]:
                sheet = with_line(sheet, line)
            self.assertEqual(sheet, (web, ranges))

    def test_asked(self):
        chance = random.Random(1614)
        for web, wide in cases(1614, 20):
            ranges = tuple([row for row in wide if row[0] in [arc[0] for arc in web[1]]])
            lines, board = self.made(web, ranges, chance)
            read = web_in(web_text(web))
            for one, other in itertools.product(web[0], repeat=2):
                asked = [f"between {one}", f"spread {one} {other}", f"sure {one} {other}", f"late {one} 0 {other}", "slow -"]
                found = replies("\n".join([*lines, *asked]))[len(lines):]
                spans = least_spread(read, one, web, (other,), ranges), greatest_spread(web, one, read, (other,), ranges)
                self.assertEqual(board.spread(one, (other,)), spans)
                self.assertEqual(found[1], f"{spans[0]} {spans[1]}")
                between = least_time(read, ranges, one), greatest_time(read, ranges, one)
                self.assertEqual(board.between(one), between)
                self.assertEqual(found[0], f"{between[0]} {between[1]}")
                sure = surely_ahead(read, ranges, one, other)
                self.assertIs(board.sure(one, other), sure)
                self.assertEqual(found[2], "yes" if sure else "no")
                ways = late_ways(read, one, read, (other,), ranges, 0)
                self.assertEqual(found[3], "; ".join([names_text(way) for way in ways]) or "none")
                self.assertIs(found[3] == "none", sure)
                self.assertEqual(pairs_in(found[4]), times(web, slow_run(ranges, ())))


if __name__ == "__main__":
    unittest.main()
