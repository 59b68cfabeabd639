"""The interface: each name, with its arguments, is defined in its file."""

import ast
import importlib
import inspect
import os
import unittest

ROWS = {
    "webs": """is_web(thing) is_ranges(thing) is_run(ranges,thing) is_way(web,event,thing) arcs_into(web,event)
        arcs_from(web,event) leads_to(web,event) comes_from(web,event) in_turn(web) with_event(web,event)
        without_event(web,event) with_arc(web,name,ahead,behind) without_arc(web,name) renamed_arcs(web,pairs)
        shared_names(one,other) with_range(ranges,name,low,high)""",
    "times": """times(web,run) time_of(web,run,event) least_time(web,ranges,event) greatest_time(web,ranges,event)
        time_run(web,ranges,event,number) is_time_run(web,ranges,event,number,thing) how_many_ways(web,event)
        nth_way(web,event,number) number_of_way(web,event,way) way_length(run,way) longest_ways(web,run,event)
        slow_run(ranges,way)""",
    "spreads": """spread(one,event,other,events,run) greatest_spread(one,event,other,events,ranges)
        least_spread(one,event,other,events,ranges) never_behind(one,event,other,events,ranges,number)
        late_way(one,event,other,events,ranges,number) late_ways(one,event,other,events,ranges,number)
        is_late_way(one,event,other,events,ranges,number,thing) spread_run(one,event,other,events,ranges,number)
        is_spread_run(one,event,other,events,ranges,number,thing)""",
    "order": """surely_ahead(web,ranges,one,other) order_pairs(web,ranges) open_pairs(web,ranges) classes(web,ranges)
        steps(web,ranges) can_be_last(web,ranges,events) surely_last(web,ranges,events) is_sure_row(web,ranges,row)
        order_paper(web,ranges,one,other) is_order_paper(web,ranges,one,other,thing)""",
    "same": """never_later(one,other,ranges,event) later_span(one,other,ranges,event) later_way(one,other,ranges,event)
        is_later_way(one,other,ranges,event,thing) alike_at(one,other,ranges,event) alike_events(one,other,ranges)
        least_unlike(one,other,ranges) are_alike(one,other,ranges) unlike_paper(one,other,ranges,event)
        is_unlike_paper(one,other,ranges,event,thing) shared_arcs(one,other)""",
    "edits": """is_edit(thing) edited(web,edits) first_refused(web,edits) edits_back(web,edits) edits_to(one,other)
        is_felt(web,ranges,edits,some) felt_events(web,ranges,edits) least_felt(web,ranges,edits,some)
        healed(web,ranges,edits,some)""",
    "lean": """decides(web,run,name) needless(web,ranges) deciding_way(web,ranges,name)
        is_deciding_way(web,ranges,name,thing) can_go(web,ranges,some) held_by(web,ranges,some)
        needing_run(web,ranges,some) is_needing_run(web,ranges,some,thing) pairs_apart(web,ranges)
        enough_sets(web,ranges,event) fewest_into(web,ranges,event) lean_web(web,ranges) is_lean(web,ranges)""",
    "berths": """is_harbour(thing) is_orders(harbour,thing) calls(harbour,ship) neighbours(harbour,orders)
        stand(harbour,orders) told_web(harbour,orders) a_ring(harbour,orders) is_ring_of(harbour,orders,thing)
        all_orders(harbour) how_many_orders(harbour) nth_orders(harbour,number) forced(harbour)""",
    "served": """first_come(harbour,orders,run,some) do_come(harbour,orders,run,some)
        unsure_pairs(harbour,orders,ranges) must_be_told(harbour,orders,ranges)
        come_always(harbour,orders,ranges,some) held(harbour,orders,ranges)
        unsure_way(harbour,orders,ranges,berth,ship) is_unsure_way(harbour,orders,ranges,berth,ship,thing)""",
    "tugs": """is_tows(web,ranges,thing) turn_late(web,ranges,tows,pause,one,other) sure_turns(web,ranges,tows,pause)
        fewest_tugs(web,ranges,tows,pause) a_roster(web,ranges,tows,pause) is_roster(web,ranges,tows,pause,thing)
        a_cover(web,ranges,tows,pause) is_cover(web,ranges,tows,pause,thing)
        late_turn(web,ranges,tows,pause,one,other) is_late_turn(web,ranges,tows,pause,one,other,thing)
        fewest_let(web,ranges,tows,pause,number) least_let(web,ranges,tows,pause,number)
        tugs_in(web,tows,pause,run)""",
    "cargo": """is_cargo(web,thing) is_journey(cargo,thing) missed_span(web,ranges,cargo,change)
        sure_changes(web,ranges,cargo) missed_way(web,ranges,cargo,change)
        is_missed_way(web,ranges,cargo,change,thing) sure_journeys(web,ranges,cargo,first,last)
        best_sure(web,ranges,cargo,first,lasts) stuck_paper(web,ranges,cargo,first,last)
        is_stuck_paper(web,ranges,cargo,first,last,thing)""",
    "changes": """with_waits(web,ranges,cargo,waits) wait_ring(web,cargo,waits) is_wait_ring(web,cargo,waits,thing)
        sure_by_waits(web,ranges,cargo,waits) undone_paper(web,ranges,cargo,some,waits)
        is_undone_paper(web,ranges,cargo,some,waits,thing) all_waits(web,ranges,cargo,some)
        fewest_waits(web,ranges,cargo,some) journey_waits(web,ranges,cargo,journey)
        moved_by(web,ranges,cargo,waits,event)""",
    "delays": """late_times(web,run,lates) late_by(web,run,lates,event) least_late(web,ranges,lates,event)
        most_late(web,ranges,lates,event) sometimes_late(web,ranges,lates) always_late(web,ranges,lates)
        late_paper(web,ranges,lates,event,number) early_paper(web,ranges,lates,event,number)
        is_late_paper(web,ranges,lates,event,number,thing) is_early_paper(web,ranges,lates,event,number,thing)
        least_lates(web,ranges,lates,event,number) fewest_cut(web,one,other) apart_ways(web,one,other)
        is_apart_ways(web,one,other,thing)""",
    "air": """air(web,run,one,other) least_air(web,ranges,one,other) greatest_air(web,ranges,one,other)
        tight_paper(web,ranges,one,other,number) loose_paper(web,ranges,one,other,number)
        is_tight_paper(web,ranges,one,other,number,thing) is_loose_paper(web,ranges,one,other,number,thing)
        always_tight(web,ranges) never_tight(web,ranges) safe_hours(web,ranges,one,some)
        plan_times(web,run,plan,lates) behind_plan(web,ranges,plan,lates) moved_plan(web,ranges,plan,lates)
        must_move(web,ranges,plan,lates) greatest_kept(web,ranges,plan,one)""",
    "days": """is_daily(thing) played(daily,runs) late_days(daily,runs) air_of(daily,ranges,name)
        short_arcs(daily,ranges) laps(daily) lap_air(daily,ranges,lap) worst_lap(daily,ranges)
        is_bad_lap(daily,ranges,thing) is_kept(daily,ranges) least_period(daily,ranges)
        most_behind(daily,ranges,event)""",
    "daily": """delayed(daily,delay,runs) late_on(daily,ranges,delay,day) dies_out(daily,ranges,event)
        airless_lap(daily,ranges,event) is_airless_lap(daily,ranges,event,thing) days_late(daily,ranges,delay)
        most_borne(daily,ranges,event,some) days_web(daily,ranges,many) spans(daily,ranges)
        day_spread(daily,ranges,one,other,on)""",
    "rules": """is_rule(web,event,thing) told_by(web,run,rule) is_safe(web,ranges,event,rule)
        is_tight(web,ranges,event,rule) is_right(web,ranges,event,rule) most_early(web,ranges,event,rule)
        early_way(web,ranges,event,rule) is_early_way(web,ranges,event,rule,thing)
        least_number(web,ranges,event,rule,seen) spare_seen(web,ranges,event,rule)
        tight_rule(web,ranges,event,some) right_rule(web,ranges,event,some) fewest_seen(web,ranges,event,some)""",
    "judge": """stands(promise) paper(promise) is_paper(promise,thing) with_high(promise,name,high)
        most_high(promise,name,top) in_run(promise,run) to_blame(promise)""",
    "texts": """number_text(number) number_in(text) names_text(names) names_in(text) set_in(text) web_text(web)
        ranges_text(ranges) pairs_text(pairs) web_in(text) ranges_in(text) pairs_in(text) is_sheet(thing)
        sheet_text(sheet) sheet_in(text) with_line(sheet,line) without_line(sheet,name) unlike_lines(one,other)""",
    "desk": """is_request(thing) replies(text)""",
}
BOARD = """__init__(self) __len__(self) __eq__(self,other) web(self) ranges(self) range_of(self,name) between(self,event)
    spread(self,event,events) sure(self,one,other) come(self,event) wait(self,name,ahead,behind,low,high)
    slack(self,name,low,high) told(self,name,length) drop(self,name) go(self,event) undo(self) deeds(self)
    twin(self)"""
ORDER = """errors webs times spreads order same edits lean berths served tugs cargo changes delays air days daily rules
    judge texts board desk""".split()
PACKAGE = os.path.join(os.path.dirname(os.path.dirname(os.path.abspath(__file__))), "slowship")


class Interface(unittest.TestCase):
    def test_functions(self):
        for file, rows in ROWS.items():
            module = importlib.import_module(f"slowship.{file}")
            for row in rows.split():
                name, args = row[:-1].split("(")
                with self.subTest(row):
                    function = getattr(module, name)
                    self.assertTrue(inspect.isfunction(function))
                    self.assertEqual(function.__module__, f"slowship.{file}")
                    self.check_arguments(function, args.split(","))

    def test_board(self):
        module = importlib.import_module("slowship.board")
        self.assertEqual(module.Board.__bases__, (object,))
        self.assertEqual(module.Board.__module__, "slowship.board")
        for row in BOARD.split():
            name, args = row[:-1].split("(")
            with self.subTest(row):
                # In the class itself, not only in a base class.
                self.assertTrue(inspect.isfunction(vars(module.Board)[name]))
                self.check_arguments(vars(module.Board)[name], args.split(","))

    def test_each_file_needs_only_those_ahead_of_it(self):
        for at, name in enumerate(ORDER):
            with open(os.path.join(PACKAGE, name + ".py"), encoding="utf-8") as file:
                tree = ast.parse(file.read())
            needs = {node.module.split(".")[1] for node in tree.body
                     if isinstance(node, ast.ImportFrom) and node.module.startswith("slowship.")}
            self.assertEqual(needs - set(ORDER[:at]) - {"common"}, set(), name)

    def check_arguments(self, function, names):
        found = list(inspect.signature(function).parameters.values())
        self.assertEqual([one.name for one in found], names)
        for one in found:
            self.assertEqual(one.kind, inspect.Parameter.POSITIONAL_OR_KEYWORD)
            self.assertIs(one.default, inspect.Parameter.empty)


if __name__ == "__main__":
    unittest.main()
