"""[5.1]: records and their events, what is wrong in them, the glass at a moment, and what is recorded of a run."""
import unittest
from unittest import mock

from moststream.ends import run_out
from moststream.errors import BadRecord, NoChoices, NoMoment
from moststream.glass import broken, first_glass, moved
from moststream.records import Record, causes, first_wrong, glass_then, recorded
from moststream.webs import Web
from tests.drawn import Draw, drawn_choices, drawn_web, odd_things
from tests.drawn_records import drawn_events
from tests.worlds import Story, plain_recorded

ROW = Web(3, ((0, 1, 3, 0), (1, 2, 2, 0)), 0, 2)
START, STILL = ("start", 0), ("still", 1)
POUR = ("take", 0, 1, ("pour", 3))
RISE = ("take", 1, 2, ("rise", 1))
PUSH = ("take", 1, 2, ("push", 2, 1))
YES = ("take", 2, 1, ("yes",))
BARE = Web(10, (), 9, 0)


def index_of(web, events):
    try:
        Record(web, events)
    except BadRecord as error:
        return error.index
    return None


class Records(unittest.TestCase):
    def test_attributes(self):
        record = Record(ROW, (START, POUR))
        self.assertEqual((record.web, record.events), (ROW, (START, POUR)))
        self.assertIs(type(record.events), tuple)
        self.assertEqual(Record(BARE, ()).events, ())

    def test_equal_if_both_are(self):
        self.assertEqual(Record(ROW, (START, POUR)), Record(Web(3, ROW.ties, 0, 2), (("start", 0), POUR)))
        self.assertNotEqual(Record(ROW, (START, POUR)), Record(ROW, (START,)))
        self.assertNotEqual(Record(ROW, (POUR, START)), Record(ROW, (START, POUR)))
        self.assertNotEqual(Record(ROW, ()), Record(Web(3, ROW.ties, 2, 0), ()))
        # Equal by their events, not by what comes of them.
        self.assertNotEqual(Record(ROW, (("start", 1),)), Record(ROW, (("start", 2),)))

    def test_equal_to_nothing_else(self):
        record = Record(ROW, ())
        for thing in odd_things() + [(ROW, ()), ROW, ()]:
            self.assertFalse(record == thing)
            self.assertTrue(record != thing)

    def test_events_of_all_sorts(self):
        for event in (START, ("start", 1), ("start", 2), STILL, POUR, RISE, PUSH, YES, ("take", 1, 0, ("no", 999)),
                      ("take", 2, 1, ("push", 10 ** 9 - 1, 0))):
            with self.subTest(event):
                self.assertEqual(Record(ROW, (event, START)).events, (event, START))

    def test_what_is_no_event(self):
        for thing in (("start", 3), ("start", -1), ("start", True), ("start",), ("start", 0, 0), ("still", 0),
                      ("still", 2), ("still", 3), ("still", True), ("still",), ("still", 1, 1), ("take", 0, 1),
                      ("take", 0, 2, ("yes",)), ("take", 1, 1, ("yes",)), ("take", 0, 3, ("yes",)),
                      ("take", False, 1, ("yes",)), ("take", 0, True, ("yes",)), ("take", 0, 1, ("pour", 0)),
                      ("take", 0, 1, ("pour", True)), ("take", 0, 1, ["yes"]), ("take", 0, 1, "yes"),
                      ("take", 0, 1, ("yes",), 0), ["start", 0], ["take", 0, 1, ("yes",)], ("Start", 0), (b"start", 0),
                      "start", ("yes",), ("pour", 3), (), None, 0, {"start": 0}, (("start", 0),), ("take", 0, 1, None),
                      ("take", 0, 1, ("take", 0, 1, ("yes",)))):
            with self.subTest(repr(thing)):
                self.assertEqual(index_of(ROW, (thing,)), 0)
                self.assertEqual(index_of(ROW, (START, ("start", 2), thing, None)), 2)

    def test_a_still_is_of_a_house_that_is_neither_spring_nor_mouth(self):
        web = Web(4, ((0, 2, 1, 1),), 2, 1)
        self.assertEqual([index_of(web, (("still", house),)) for house in range(4)], [None, 0, 0, None])
        self.assertEqual([index_of(web, (("start", house),)) for house in range(4)], [None] * 4)

    def test_no_tuple_of_so_many(self):
        for thing in odd_things():
            with self.subTest(repr(thing)[:60]):
                due = -1 if not isinstance(thing, tuple) or len(thing) > 3000 else 0 if thing else None
                self.assertEqual(index_of(ROW, thing), due)
                self.assertEqual(index_of(ROW, (START, thing)), 1)
                self.assertEqual(index_of(ROW, ((thing, 0),)), 0)
                self.assertEqual(index_of(ROW, (("take", 0, 1, thing),)), 0)
                self.assertEqual(index_of(ROW, (("take", 0, thing, ("yes",)),)), 0)
                self.assertEqual(index_of(ROW, (("still", thing),)), 0)
        self.assertEqual(index_of(ROW, [START]), -1)

    def test_of_3000_events_and_one_more(self):
        record = Record(ROW, (STILL,) * 3000)
        self.assertEqual(len(record.events), 3000)
        self.assertIsNone(first_wrong(record))
        self.assertEqual(glass_then(record, 3000), first_glass(ROW))
        self.assertRaises(NoMoment, glass_then, record, 3001)
        self.assertEqual(index_of(ROW, (STILL,) * 3001), -1)
        self.assertEqual(index_of(ROW, (STILL,) * 2999 + (None,)), 2999)
        # No tuple of so many is told as such, whatever stands in it.
        self.assertEqual(index_of(ROW, (None,) * 3001), -1)

    def test_events_that_can_not_be_done_can_be_told(self):
        for seed in range(20):
            draw = Draw(seed)
            web = drawn_web(draw, many=4, shape="all")
            events = list(plain_recorded(web, drawn_choices(draw)))
            mixed = tuple(sorted(events, key=lambda event: draw.below(1000)))
            self.assertEqual(Record(web, mixed).events, mixed)


class FirstWrong(unittest.TestCase):
    def wrong(self, *events):
        found = first_wrong(Record(ROW, events))
        self.assertEqual(found, Story(ROW, events).wrong)
        return found

    def test_none(self):
        self.assertIsNone(self.wrong())
        self.assertIsNone(self.wrong(START, POUR, RISE, PUSH, YES))
        self.assertIsNone(self.wrong(STILL, START, STILL, POUR))

    def test_awake(self):
        self.assertEqual(self.wrong(("start", 1)), (0, "awake"))
        self.assertEqual(self.wrong(START, ("start", 2)), (1, "awake"))
        self.assertEqual(self.wrong(START, START), (1, "awake"))
        self.assertEqual(self.wrong(START, POUR, START), (2, "awake"))

    def test_empty(self):
        self.assertEqual(self.wrong(POUR), (0, "empty"))
        self.assertEqual(self.wrong(START, RISE), (1, "empty"))
        self.assertEqual(self.wrong(START, POUR, POUR), (2, "empty"))
        self.assertEqual(self.wrong(START, POUR, YES), (2, "empty"))

    def test_other(self):
        self.assertEqual(self.wrong(START, ("take", 0, 1, ("pour", 2))), (1, "other"))
        self.assertEqual(self.wrong(START, ("take", 0, 1, ("push", 3, 3))), (1, "other"))
        # Rise 1 stands ahead of the push on this way.
        self.assertEqual(self.wrong(START, POUR, PUSH), (2, "other"))
        self.assertEqual(self.wrong(START, POUR, RISE, RISE), (3, "other"))
        self.assertEqual(self.wrong(START, POUR, RISE, ("take", 1, 2, ("push", 2, 2))), (3, "other"))

    def test_early(self):
        self.assertEqual(self.wrong(START, POUR, STILL), (2, "early"))
        self.assertEqual(self.wrong(START, POUR, RISE, STILL, PUSH, YES), (3, "early"))
        self.assertEqual(self.wrong(START, POUR, STILL, STILL, START), (2, "early"))

    def test_stills_are_due_where_a_house_holds_nothing(self):
        self.assertIsNone(self.wrong(STILL, STILL, START, STILL))
        web = Web(3, ((0, 1, 3, 0), (1, 2, 3, 0)), 0, 2)
        record = Record(web, (START, POUR, STILL, RISE, ("still", 1)))
        self.assertIsNone(first_wrong(record))

    def test_the_first_one_counts(self):
        self.assertEqual(self.wrong(START, POUR, STILL, START), (2, "early"))
        self.assertEqual(self.wrong(START, START, POUR, STILL), (1, "awake"))
        self.assertEqual(self.wrong(POUR, ("start", 1)), (0, "empty"))

    def test_what_can_be_done(self):
        for events, many in (((), 0), ((START, POUR, STILL, RISE), 4), ((START, POUR, STILL, START, RISE), 3),
                             ((POUR, START), 0), ((START, START, POUR), 1), ((START, POUR, PUSH, RISE), 2),
                             ((START, RISE, POUR), 1), ((STILL, ("start", 1)), 1)):
            with self.subTest(events):
                record = Record(ROW, events)
                self.assertEqual(len(causes(record)), many)
                glass_then(record, many)
                self.assertRaises(NoMoment, glass_then, record, many + 1)

    def test_drawn(self):
        found = {}
        for seed in range(300):
            draw = Draw(seed)
            web, events = drawn_events(draw)
            wrong = first_wrong(Record(web, events))
            story = Story(web, events)
            self.assertEqual(wrong, story.wrong)
            word = wrong and wrong[1]
            found[word] = found.get(word, 0) + 1
        self.assertEqual(set(found), {None, "awake", "empty", "other", "early"})
        self.assertTrue(min(found.values()) > 8, found)


class GlassThen(unittest.TestCase):
    def test_step_by_step(self):
        events = (START, STILL, POUR, STILL, RISE, PUSH, YES)
        record = Record(ROW, events)
        glass = first_glass(ROW)
        for at, event in enumerate(events):
            self.assertEqual(glass_then(record, at), glass)
            if event != STILL:
                glass = moved(ROW, glass, event[:3])
        self.assertEqual(glass_then(record, 7), glass)

    def test_of_no_events(self):
        for web in (ROW, BARE):
            self.assertEqual(glass_then(Record(web, ()), 0), first_glass(web))
            self.assertRaises(NoMoment, glass_then, Record(web, ()), 1)

    def test_no_moment(self):
        record = Record(ROW, (START, POUR, PUSH))
        self.assertEqual(glass_then(record, 2)[0][1][0], "awake")
        for thing in [3, 4, 10 ** 19, -1, -2, True, False, None, "1", (1,), [0], *odd_things()]:
            if thing != 0 or isinstance(thing, bool):
                with self.subTest(repr(thing)[:60]):
                    self.assertRaises(NoMoment, glass_then, record, thing)

    def test_drawn(self):
        for seed in range(60):
            web, events = drawn_events(Draw(seed))
            record = Record(web, events)
            story = Story(web, events)
            for at, glass in enumerate(story.glasses):
                self.assertEqual(glass_then(record, at), glass)
                self.assertEqual(broken(web, glass), ())
            self.assertRaises(NoMoment, glass_then, record, len(story.glasses))

    def test_asking_changes_nothing(self):
        record = Record(ROW, (START, POUR, PUSH))
        same = Record(ROW, (START, POUR, PUSH))
        for at in (2, 0, 1, 2, 0):
            self.assertEqual(glass_then(record, at), glass_then(same, at))
        self.assertRaises(NoMoment, glass_then, record, 3)
        self.assertEqual(record, same)
        self.assertEqual(record.events, (START, POUR, PUSH))


class Recorded(unittest.TestCase):
    def test_of_the_example(self):
        self.assertEqual(recorded(ROW, ()), Record(ROW, (
            START, POUR, ("take", 1, 0, ("rise", 1)), RISE, PUSH, YES, STILL, ("take", 1, 0, ("rise", 4)),
            ("take", 1, 0, ("push", 1, 4)), ("take", 0, 1, ("yes",)), ("take", 1, 2, ("rise", 4)))))

    def test_choices_tell_the_order(self):
        self.assertEqual(recorded(ROW, [0, 0, 1]).events[:3], (START, POUR, RISE))
        self.assertEqual(recorded(ROW, (0, 0, 1, 1)).events[3], PUSH)
        self.assertEqual(recorded(ROW, []), recorded(ROW, ()))
        self.assertEqual(recorded(ROW, [10 ** 20 - 1] * 3), recorded(ROW, (0, 0, 1)))

    def test_without_ties(self):
        self.assertEqual(recorded(BARE, ()), Record(BARE, (("start", 9),)))

    def test_stills(self):
        # What house 1 holds it can't push at once: what is sent to the mouth must be answered first.
        web = Web(3, ((0, 1, 9, 0), (1, 2, 2, 0)), 0, 2)
        events = recorded(web, ()).events
        at = events.index(STILL)
        self.assertEqual(events.count(STILL), 1)
        self.assertEqual(events[at - 1][0], "take")
        self.assertEqual(events[at - 1][2], 1)
        record = recorded(web, ())
        self.assertTrue(glass_then(record, at - 1)[0][1][2] > 0)
        self.assertEqual(glass_then(record, at)[0][1][2], 0)

    def test_no_still_where_nothing_was_held_ahead(self):
        # Three units come and are sent on at once: the house held nothing ahead of this take.
        web = Web(3, ((0, 1, 3, 0), (1, 2, 3, 0)), 0, 2)
        record = recorded(web, ())
        self.assertEqual(record.events[:2], (START, POUR))
        self.assertEqual(glass_then(record, 2)[0][1][2], 0)
        self.assertNotIn(STILL, record.events)

    def test_drawn(self):
        stills = 0
        for seed in range(60):
            draw = Draw(seed)
            web = drawn_web(draw, many=2 + seed % 6, most_units=(3, 9, 99)[seed % 3])
            choices = drawn_choices(draw)
            record = recorded(web, choices)
            events = plain_recorded(web, choices)
            self.assertEqual(record.events, events)
            self.assertEqual(record.web, web)
            stills += sum(event[0] == "still" for event in events)
        self.assertTrue(stills > 40, stills)

    def test_the_fact_of_records(self):
        for seed in range(40):
            draw = Draw(seed)
            web = drawn_web(draw, many=2 + seed % 9, most_units=(3, 9, 999999)[seed % 3])
            choices = drawn_choices(draw)
            record = recorded(web, choices)
            self.assertTrue(len(record.events) < 3000)
            self.assertIsNone(first_wrong(record))
            self.assertEqual(glass_then(record, len(record.events)), run_out(web, choices)[0])
            for at in range(0, len(record.events) + 1, 1 + len(record.events) // 20):
                self.assertEqual(broken(web, glass_then(record, at)), ())

    def test_of_more_events_than_there_may_be_the_first_ones(self):
        # No web is known of which a run tells more than 3000 events, so fewer are allowed here.
        seen_limits = 0
        for seed in range(12):
            draw = Draw(seed)
            web = drawn_web(draw, many=5, shape="all")
            choices = drawn_choices(draw)
            events = plain_recorded(web, choices)
            stills = [at for at, event in enumerate(events) if event[0] == "still"]
            for limit in [1, 7, len(events) - 1, len(events), len(events) + 1, *stills[:2]]:
                with mock.patch("moststream.records.MOST_EVENTS", limit):
                    self.assertEqual(recorded(web, choices).events, events[:limit])
                    seen_limits += limit < len(events)
        self.assertTrue(seen_limits > 20)

    def test_no_choices(self):
        for choices, index in ((None, -1), ("", -1), ({}, -1), (b"\x01", -1), (True, -1), ((0, True), 1), ([-1], 0),
                               ((0, 0, (0,)), 2), ([3, "3", None], 1), ((1,) * 2000 + (False,), 2000)):
            with self.subTest(repr(choices)[:40]):
                with self.assertRaises(NoChoices) as caught:
                    recorded(ROW, choices)
                self.assertEqual(caught.exception.index, index)
        for thing in odd_things():
            if not isinstance(thing, (list, tuple)):
                self.assertRaises(NoChoices, recorded, ROW, thing)

    def test_what_is_passed_stays(self):
        choices = [1, 2, 3]
        recorded(ROW, choices)
        self.assertEqual(choices, [1, 2, 3])


if __name__ == "__main__":
    unittest.main()
