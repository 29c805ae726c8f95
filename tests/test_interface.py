import importlib
import inspect
import unittest

NEEDED = inspect.Parameter.empty

# By file: each function, class and deed with how many things are handed in by place, and what by its name.
INTERFACE = {
    "worths": {
        "trimmed": (1, {"few": NEEDED}), "middle": (1, {"few": NEEDED}), "mean": (1, {"few": NEEDED}),
        "median": (1, {}), "spread": (1, {}), "is_between": (2, {})},
    "meetings": {
        "Meeting": (1, {"few": NEEDED, "liars": ()}), "Meeting.meet": (1, {}), "Meeting.number": (1, {}),
        "Meeting.numbers_now": (0, {}), "Meeting.honest": (0, {}), "Meeting.apart": (0, {}), "Meeting.rounds": (0, {}),
        "rounds_for": (2, {}), "stuck": (1, {"apart": 10})},
    "spans": {
        "fused": (1, {"few": NEEDED}), "shown_false": (1, {"few": NEEDED}), "depth": (2, {}), "best_points": (1, {}),
        "fewest_lies": (1, {})},
    "clocks": {
        "Clock": (0, {"first": 0, "rate": 0}), "Clock.raw": (1, {}), "Clock.shows": (1, {}), "Clock.turn": (1, {}),
        "Clock.beat_of": (1, {}), "Clock.twin": (0, {}), "drift_in": (1, {"rate": NEEDED})},
    "companies": {
        "Company": (1, {"few": NEEDED, "error": 0, "liars": (), "waiting": ()}), "Company.members": (0, {}),
        "Company.honest": (0, {}), "Company.shows": (2, {}), "Company.readings": (1, {}), "Company.apart": (1, {}),
        "Company.meet": (2, {"offs": None}), "Company.enter": (3, {"offs": None}), "Company.leave": (1, {}),
        "Company.history": (0, {}), "after_meeting": (1, {"error": NEEDED}),
        "steady": (0, {"error": NEEDED, "rate": NEEDED, "beats": NEEDED})},
    "pulses": {
        "Pulse": (1, {"few": NEEDED, "liars": ()}), "Pulse.honest": (0, {}), "Pulse.ready": (2, {}),
        "Pulse.lie": (3, {}), "Pulse.letters": (0, {}), "Pulse.come": (1, {}), "Pulse.has_said": (2, {}),
        "Pulse.strikes": (1, {}), "Pulse.all_strikes": (0, {})},
    "echoes": {
        "Echo": (1, {"few": NEEDED, "sender": 0, "liars": ()}), "Echo.honest": (0, {}), "Echo.letters": (0, {}),
        "Echo.come": (1, {}), "Echo.send": (1, {}), "Echo.lie": (4, {}), "Echo.took": (1, {}), "Echo.stage": (1, {})},
    "books": {
        "Book": (1, {"liars": ()}), "Book.say": (3, {}), "Book.show": (2, {}), "Book.pass_on": (2, {}),
        "Book.known": (1, {}), "Book.clashes": (1, {}), "Book.convicted": (1, {}), "is_clash": (1, {}),
        "all_convicted": (1, {})},
    "threes": {
        "Rules": (1, {}), "words_with": (2, {"liar": NEEDED, "lies": NEEDED}), "broken": (1, {})},
    "bounds": {
        "least_houses": (1, {"few": NEEDED}), "most_liars": (1, {"houses": NEEDED})},
    "weights": {
        "total_weight": (1, {}), "weighed_left": (1, {"lost": NEEDED}), "weighed_middle": (1, {"lost": NEEDED}),
        "weighed_median": (1, {})},
    "planes": {
        "box": (1, {}), "middle_point": (1, {"few": NEEDED}), "in_box": (2, {}), "width": (1, {})},
    "tracks": {
        "Track": (0, {"few": NEEDED, "speed": NEEDED}), "Track.see": (2, {}), "Track.guess": (1, {}),
        "Track.liars_found": (0, {})},
    "timed": {
        "TimedPulse": (1, {"few": NEEDED, "liars": (), "delay": 10}), "TimedPulse.go_on": (0, {"delays": ()}),
        "TimedPulse.now": (0, {}), "TimedPulse.struck_at": (2, {}), "TimedPulse.honest": (0, {}),
        "TimedPulse.ready": (2, {}), "TimedPulse.lie": (3, {}), "TimedPulse.letters": (0, {}),
        "TimedPulse.come": (1, {}), "TimedPulse.has_said": (2, {}), "TimedPulse.strikes": (1, {}),
        "TimedPulse.all_strikes": (0, {})},
}


def found(file, name):
    thing = importlib.import_module("liarclocks." + file)
    for part in name.split("."):
        thing = getattr(thing, part)
    return thing


def handed_in(file, name):
    """What is handed in by place, without the object itself, and what by its name."""
    things = list(inspect.signature(found(file, name)).parameters.values())
    by_place = [thing for thing in things if thing.kind == thing.POSITIONAL_OR_KEYWORD]
    by_name = {thing.name: thing.default for thing in things if thing.kind == thing.KEYWORD_ONLY}
    return len(by_place) - (1 if "." in name else 0), by_name


class Interface(unittest.TestCase):
    def test_all_is_there_with_what_is_handed_in(self):
        for file, names in INTERFACE.items():
            for name, told in names.items():
                with self.subTest(f"{file} {name}"):
                    self.assertEqual(handed_in(file, name), told)

    def test_one_thing_by_place_may_be_left_out(self):
        for file, names in INTERFACE.items():
            for name in names:
                things = inspect.signature(found(file, name)).parameters.values()
                left_out = [thing.default for thing in things
                            if thing.kind == thing.POSITIONAL_OR_KEYWORD and thing.default is not NEEDED]
                self.assertEqual(left_out, [1] if name == "rounds_for" else [])

    def test_who_is_a_class(self):
        for file, names in INTERFACE.items():
            for name in names:
                self.assertEqual(inspect.isclass(found(file, name)), "." not in name and name[0].isupper())


if __name__ == "__main__":
    unittest.main()
