"""The interface: names, arguments, and the files in which they are defined."""

import importlib
import inspect
import unittest

ROWS = {
    "curves": "Curve(start, period, growth); value(curve, beat); values(curve, beats); flat(number); "
              "line(burst, steps, beats); late(wait, steps, beats); rate(curve)",
    "joined": "first_above(curve, other); is_below(curve, other); least_of(curve, other); "
              "most_of(curve, other); sum_of(curve, other); later(curve, beats); sooner(curve, beats); "
              "raised(curve, number); times(curve, number)",
    "examples": "examples()",
    "foldings": "unit(); folding(curve, other); split_at(curve, other, beat)",
    "closures": "closure(curve); first_break(curve); is_closed(curve); cuts(curve, beat)",
    "fewparts": "within(curve, number); most_parts(curve)",
    "gates": "is_timetable(thing); let_through(table, phase, beats); least_phase(table, beats); "
             "gate_curve(table); gate_most(table)",
    "bookings": "is_bookings(thing); due_curve(bookings); all_kept(table, bookings); "
                "breaking(table, bookings)",
    "inverses": "reach(curve); passed(curve)",
    "joints": "joint(promises); either(promises)",
    "morebookings": "least_deadline(table, bookings, promise); "
                    "most_times(table, bookings, promise, deadline); added(table, other)",
    "nets": "Net(servers, flows); stops(net); sequence(net)",
    "netplays": "net_played(net, comes, gifts); is_lawful(net, comes, gifts); met(net, comes, gifts)",
    "pages": "page_bytes(room, number, bookings); page_read(thing)",
    "keepers": "Keeper(table, room, pages); fallen_pages(keeper, cut)",
    "renames": "renamed_net(net, servers, flows); net_renaming(net, other)",
    "stations": "Station(speeds, rule); is_rows(station, thing); rotated(station, phase)",
    "plays": "played(station, rows); letter_waits(station, rows); left_heaps(station, rows); "
             "first_unlike(station, rows, thing)",
    "parcelplays": "played_parcels(speeds, flows)",
    "stationlines": "played_line(lines, traffic); line_waits(lines, traffic)",
    "systems": "System(bases, arcs); is_solution(system, thing); solved(system); still_joints(system); "
               "least_solved(system); is_one(system)",
    "throughs": "shift(number, beats); through(system, to, joint); without(system, joint)",
    "traffics": "is_traffic(thing); is_row(thing); is_endless(thing); row_of(traffic); traffic_of(row); "
                "curve_of(traffic); first_beats(endless, beats)",
    "earliest": "is_way_out(table, phase, rows, thing); earliest_run(table, phase, rows, deadlines); "
                "missed(rows, ways, deadlines)",
    "gatelines": "round_of(gates); gates_run(gates, phase, row); line_curve(gates); slow_phase(gates, beats)",
    "promises": "breach(traffic, promise); keeps(traffic, promise)",
    "rankings": "ranks_run(table, phase, rows); ranks_kept(table, bookings); "
                "ranks_breaking(table, bookings); ranks_order(table, bookings)",
    "rests": "rest_of(traffic, promise); room(traffic, promise); Meter(promise); metered(meter, letters)",
    "counts": "all_rests(promise); all_moves(promise); count_kept(promise, beats); "
              "kept_at(promise, beats, place); kept_place(promise, traffic)",
    "runs": "is_run(thing); run_heaps(run); run_waits(run); is_bundle(thing); all_together(bundle)",
    "services": "service_break(run, service); keeps_service(run, service); least_gone(came, service)",
    "parcels": "whole_parcels(row, sizes); parcel_service(service, most); parcel_promise(promise, most)",
    "ranks": "left_by_rank(service, above); left_first_come(service, others, beats)",
    "sharing": "left_by_turns(service, quanta, flow); left_by_shares(service, shares, flow)",
    "strictly": "strict_break(run, service); keeps_strictly(run, service); lazy_gone(came, service)",
    "bundles": "is_by_rank(bundle); is_first_come(bundle); is_by_turns(bundle, quanta); "
               "is_by_shares(bundle, shares)",
    "unfoldings": "unfolding(curve, other); spread_at(curve, other, beat)",
    "curvetexts": "curve_text(curve); tail_of_curve_text(text); curve_of_text(text)",
    "bookingtexts": "bookings_text(bookings); tail_of_bookings_text(text); bookings_of_text(text); "
                    "timetable_text(timetable); tail_of_timetable_text(text); timetable_of_text(text)",
    "measures": "measured(traffic); measured_all(traffics)",
    "nettexts": "net_text(net); tail_of_net_text(text); net_of_text(text)",
    "ways": "most_above(curve, other); longest_across(curve, other)",
    "bounds": "longest_wait(promise, service); greatest_heap(promise, service); wait_run(promise, service); "
              "heap_run(promise, service); goes_out(promise, service); out_run(promise, service, beats)",
    "gatewaits": "gates_wait(gates, promise); gates_heap(gates, promise)",
    "loops": "loop_gap(promise, system, to, joint); loop_above(promise, system, to, joint, number)",
    "reshapings": "shaping_cost(promise, shaper, server)",
    "serverlines": "in_line(services); waits_in_line(promise, services)",
    "netbounds": "door_of(net, flow, server); left_of(net, flow, server); stop_bounds(net, flow, server); "
                 "whole_wait(net, flow); net_bounds(net); server_heap(net, server)",
    "changes": "is_change(thing); changed(net, change); spread(net, change); touched(net, change); "
               "unlike_bounds(net, other)",
    "limits": "broken_limits(net, limits); burst_room(net, limits, flow, most); "
              "least_speed(net, limits, server, most); fewest_gone(net, limits)",
    "sessions": "is_deed(thing); Session(net)",
    "journals": "deed_text(deed); deed_of_text(text); journal(session); taken_up(net, lines); trimmed(session)",
    "desk": "Desk(net)",
    "shapers": "shaped(traffic, promise); heap_in(traffic, promise); wait_in(traffic, promise)",
    "toldbounds": "left_to(station, promises, flow); told_wait(station, promises, flow); "
                  "told_heap(station, promises, flow)",
    "searches": "all_traffics(promise, beats); worst(station, promises, flow, beats); "
                "worst_heap(station, promises, flow, beats); worst_phase(speeds, promise); "
                "never_worse(station, other, beats)",
    "leastrows": "least_rows(station, promises, flow, wait, beats)",
    "windows": "window_run(server, window, row); windowed(server, window); least_window(server); "
               "throughput(server, window); window_for(server, steps, beats)",
    "floors": "is_floor(system, steps, beats, thing); floor_of(system, steps, beats); "
              "slower(system, steps, beats); is_slower(system, steps, beats, thing)",
    "withins": "is_within(promise, other); are_alike(promise, other); traffic_between(promise, other)",
}
METHODS = {("keepers", "Keeper"): "ask(self, name, promise, deadline); drop(self, name)",
           ("sessions", "Session"): "do(self, deed); undo(self); redo(self); bounds(self); limits(self); "
                                    "broken(self); deeds(self); undone(self); what_if(self, deed); since(self, number)",
           ("desk", "Desk"): "say(self, line)"}


def taken(thing):
    return [name for name in inspect.signature(thing).parameters]


def parts(row):
    for one in row.split("; "):
        name, _, rest = one.partition("(")
        yield name, [word for word in rest.rstrip(")").split(", ") if word]


class Interface(unittest.TestCase):
    def test_names_and_arguments(self):
        for file, row in ROWS.items():
            module = importlib.import_module("worstwait." + file)
            for name, wanted in parts(row):
                thing = getattr(module, name)
                self.assertEqual(taken(thing), wanted, name)
                self.assertEqual(thing.__module__, "worstwait." + file, name)
                self.assertEqual(inspect.isclass(thing), name[0].isupper(), name)

    def test_methods_stand_in_their_class(self):
        for (file, name), row in METHODS.items():
            module = importlib.import_module("worstwait." + file)
            for method, wanted in parts(row):
                self.assertEqual(taken(vars(getattr(module, name))[method]), wanted)


if __name__ == "__main__":
    unittest.main()
