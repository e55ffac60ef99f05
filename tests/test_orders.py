"""[5.2] and [5.3]: what causes what, what each house sees, other orders, and what was carried."""
import unittest

from moststream.ends import stream_of
from moststream.errors import NoHouse, NoTie
from moststream.records import (Record, by_least, carried, causes, first_wrong, glass_then, is_alike, longest_chain,
                                recorded, seen, vectors)
from moststream.streams import is_stream
from moststream.webs import Web
from tests.drawn import Draw, drawn_web, no_houses, odd_things
from tests.drawn_records import drawn_events, shuffled
from tests.plain import around
from tests.worlds import Story, house_of

ROW = Web(3, ((0, 1, 3, 0), (1, 2, 2, 0)), 0, 2)
BARE = Web(10, (), 9, 0)
START, STILL, POUR = ("start", 0), ("still", 1), ("take", 0, 1, ("pour", 3))
# What happens on the row if always the least move is made: house 1 rises twice, one unit goes back.
EVENTS = (START, POUR, ("take", 1, 0, ("rise", 1)), ("take", 1, 2, ("rise", 1)), ("take", 1, 2, ("push", 2, 1)),
          ("take", 2, 1, ("yes",)), STILL, ("take", 1, 0, ("rise", 4)), ("take", 1, 0, ("push", 1, 4)),
          ("take", 0, 1, ("yes",)), ("take", 1, 2, ("rise", 4)))
RUN = Record(ROW, EVENTS)


def drawn_stories(seeds):
    for seed in range(seeds):
        web, events = drawn_events(Draw(seed))
        yield web, Record(web, events), Story(web, events)


class Causes(unittest.TestCase):
    def test_of_the_example(self):
        self.assertEqual(causes(RUN), ((), (0,), (0, 1), (1,), (1, 3), (1, 4), (5,), (2, 5), (5, 7), (6, 8), (4, 5)))

    def test_of_none(self):
        for record in (Record(ROW, ()), Record(ROW, (("start", 1), START)), Record(BARE, ())):
            self.assertEqual((causes(record), vectors(record), longest_chain(record)), ((), (), 0))

    def test_stills_and_the_start_are_caused_by_their_own_house_alone(self):
        record = Record(ROW, (STILL, STILL, START, STILL, POUR, STILL, STILL))
        self.assertEqual(first_wrong(record), (5, "early"))
        self.assertEqual(causes(record), ((), (0,), (), (1,), (2, 3), (4,), (5,)))

    def test_of_those_that_can_be_done_alone(self):
        self.assertEqual(causes(Record(ROW, EVENTS[:5] + (START,) + EVENTS[5:])), causes(RUN)[:5])

    def test_words_in_the_order_in_which_they_were_sent(self):
        # Two words that are alike were sent in two events: the first one that is taken was sent in the first.
        web = Web(4, ((0, 1, 5, 0), (1, 2, 1, 1), (2, 3, 0, 0)), 0, 3)
        for seed in range(20):
            choices = [Draw(seed).below(9) for _ in range(9)]
            record = recorded(web, choices)
            self.assertEqual(causes(record), tuple(tuple(sorted(lot)) for lot in Story(web, record.events).direct))

    def test_drawn(self):
        for web, record, story in drawn_stories(120):
            self.assertEqual(causes(record), tuple(tuple(sorted(because)) for because in story.direct))
            for index, lot in enumerate(causes(record)):
                self.assertTrue(all(other < index for other in lot))


class Vectors(unittest.TestCase):
    def test_of_the_example(self):
        self.assertEqual(vectors(RUN), ((1, 0, 0), (1, 1, 0), (2, 1, 0), (1, 1, 1), (1, 1, 2), (1, 2, 2), (1, 3, 2),
                                        (3, 2, 2), (4, 2, 2), (4, 4, 2), (1, 2, 3)))

    def test_drawn(self):
        for _, record, story in drawn_stories(120):
            self.assertEqual(vectors(record), story.vectors())

    def test_an_early_still_counts_too(self):
        self.assertEqual(vectors(Record(ROW, (START, POUR, STILL, STILL, ("start", 2), STILL))),
                         ((1, 0, 0), (1, 1, 0), (1, 2, 0), (1, 3, 0)))


class LongestChain(unittest.TestCase):
    def test_of_the_example(self):
        # Start, pour, rise and push at the mouth, yes, rise and push at the spring, yes.
        self.assertEqual(longest_chain(RUN), 8)

    def test_of_one_house(self):
        self.assertEqual(longest_chain(Record(ROW, (STILL,) * 3000)), 3000)
        self.assertEqual(longest_chain(Record(ROW, (START,))), 1)
        self.assertEqual(longest_chain(Record(ROW, (STILL, START))), 1)

    def test_drawn(self):
        for _, record, story in drawn_stories(120):
            self.assertEqual(longest_chain(record), story.longest())


class Seen(unittest.TestCase):
    def test_of_the_example(self):
        self.assertEqual(seen(RUN, 0), (EVENTS[0], EVENTS[2], EVENTS[7], EVENTS[8]))
        self.assertEqual(seen(RUN, 1), (EVENTS[1], EVENTS[5], EVENTS[6], EVENTS[9]))
        self.assertEqual(seen(RUN, 2), (EVENTS[3], EVENTS[4], EVENTS[10]))

    def test_of_those_that_can_be_done_alone(self):
        record = Record(ROW, (START, STILL, START, STILL, POUR))
        self.assertEqual([seen(record, house) for house in range(3)], [(START,), (STILL,), ()])

    def test_drawn(self):
        for web, record, story in drawn_stories(60):
            for house in range(web.many):
                self.assertEqual(seen(record, house), story.seen(house))

    def test_no_house(self):
        for thing in no_houses(3):
            with self.subTest(repr(thing)[:60]):
                self.assertRaises(NoHouse, seen, RUN, thing)


class Alike(unittest.TestCase):
    def test_the_same_in_another_order(self):
        other = Record(ROW, EVENTS[:2] + (EVENTS[3], EVENTS[2]) + EVENTS[4:])
        self.assertNotEqual(RUN, other)
        self.assertIs(is_alike(RUN, other), True)
        self.assertIs(is_alike(other, RUN), True)
        self.assertIs(is_alike(RUN, RUN), True)
        self.assertIs(is_alike(RUN, Record(ROW, EVENTS)), True)

    def test_not_alike(self):
        for events in ((), EVENTS[:-1], EVENTS + (STILL,), (STILL,) + EVENTS, (START, POUR)):
            with self.subTest(len(events)):
                self.assertIs(is_alike(RUN, Record(ROW, events)), False)

    def test_another_order_in_one_house(self):
        one = Record(ROW, (START, STILL, POUR))
        self.assertIs(is_alike(one, Record(ROW, (STILL, START, POUR))), True)
        self.assertIs(is_alike(one, Record(ROW, (START, POUR, STILL))), False)

    def test_only_what_can_be_done_is_seen(self):
        self.assertIs(is_alike(RUN, Record(ROW, EVENTS + (START, STILL, STILL))), True)
        self.assertIs(is_alike(Record(ROW, (POUR,)), Record(ROW, (("start", 2), START))), True)

    def test_of_the_same_web(self):
        bare = Web(10, (), 9, 1)
        self.assertIs(is_alike(Record(BARE, ()), Record(Web(10, (), 9, 0), ())), True)
        self.assertIs(is_alike(Record(BARE, ()), Record(bare, ())), False)
        self.assertIs(is_alike(Record(ROW, ()), Record(Web(3, ROW.ties[:1], 0, 2), ())), False)

    def test_things_of_all_kinds(self):
        for thing in odd_things() + [EVENTS, (ROW, EVENTS), [RUN], (RUN,), ROW]:
            with self.subTest(repr(thing)[:60]):
                self.assertIs(is_alike(RUN, thing), False)
                self.assertIs(is_alike(Record(ROW, ()), thing), False)

    def test_drawn(self):
        found = {True: 0, False: 0}
        for seed in range(150):
            draw = Draw(seed)
            web, events = drawn_events(draw, many=3)
            one, story = Record(web, events), Story(web, events)
            kept = list(shuffled(draw, one, story.direct))
            if draw.below(2) and kept:
                at = draw.below(len(kept))
                kept[at:at + 1] = draw.one_of(([], [kept[at]] * 2, [("start", web.mouth)]))
            other = Record(web, tuple(kept))
            due = all(story.seen(house) == Story(web, kept).seen(house) for house in range(web.many))
            self.assertIs(is_alike(one, other), due)
            found[due] += 1
        self.assertTrue(min(found.values()) > 20, found)


class ByLeast(unittest.TestCase):
    def test_of_the_example(self):
        order = (0, 1, 2, 3, 4, 5, 7, 8, 6, 9, 10)
        self.assertEqual(by_least(RUN), Record(ROW, tuple(EVENTS[index] for index in order)))
        self.assertEqual(by_least(by_least(RUN)), by_least(RUN))

    def test_the_least_house_first_again_and_again(self):
        record = Record(ROW, (STILL, STILL, START, STILL, POUR, STILL))
        self.assertEqual(by_least(record).events, (START, STILL, STILL, STILL, POUR, STILL))

    def test_of_those_that_can_be_done_alone(self):
        self.assertEqual(by_least(Record(ROW, (STILL, START, START, POUR))), Record(ROW, (START, STILL)))
        self.assertEqual(by_least(Record(ROW, (POUR, START))), Record(ROW, ()))
        self.assertEqual(by_least(Record(BARE, ())), Record(BARE, ()))

    def test_what_is_passed_stays(self):
        record = Record(ROW, (STILL, START, START, POUR))
        by_least(record)
        self.assertEqual(record.events, (STILL, START, START, POUR))
        self.assertEqual(glass_then(record, 2), glass_then(by_least(record), 2))

    def test_drawn(self):
        other = 0
        for web, record, story in drawn_stories(120):
            found = by_least(record)
            self.assertEqual(found, Record(web, story.least_first()))
            other += found.events != record.events[:len(found.events)]
        self.assertTrue(other > 40, other)


class Carried(unittest.TestCase):
    def test_of_the_example(self):
        self.assertEqual([carried(RUN, *way) for way in ((0, 1), (1, 2), (1, 0), (2, 1))], [3, 2, 1, 0])
        self.assertEqual(carried(Record(ROW, EVENTS[:4]), 1, 2), 0)

    def test_only_what_can_be_done(self):
        self.assertEqual(carried(Record(ROW, (START, START, POUR)), 0, 1), 0)
        self.assertEqual(carried(Record(ROW, (START, POUR, POUR)), 0, 1), 3)

    def test_pushes_that_are_refused_do_not_count(self):
        answers = {"yes": 0, "no": 0}
        for web, record, story in drawn_stories(60):
            pushes = [at for at, event in enumerate(story.done) if event[0] == "take" and event[3][0] == "push"]
            for at in pushes[:10]:
                one, other, (_, units, _) = story.done[at][1:]
                sent = [way[2] for way in glass_then(record, at + 1)[1] if way[:2] == (other, one)][0]
                answer = [word[0] for word in sent if word[0] in answers][0]
                ahead, behind = [carried(Record(web, record.events[:many]), one, other) for many in (at, at + 1)]
                self.assertEqual(behind - ahead, units if answer == "yes" else 0)
                answers[answer] += 1
        self.assertTrue(min(answers.values()) > 5, answers)

    def test_drawn(self):
        refused = 0
        for web, record, story in drawn_stories(120):
            for one in range(web.many):
                for other in around(web, one):
                    self.assertEqual(carried(record, one, other), story.units.get((one, other), 0))
            refused += sum(event[0] == "take" and event[3][0] == "no" for event in story.done)
        self.assertTrue(refused > 20, refused)

    def test_no_house_then_no_tie(self):
        for thing in no_houses(3):
            with self.subTest(repr(thing)[:60]):
                self.assertRaises(NoHouse, carried, RUN, thing, 1)
                self.assertRaises(NoHouse, carried, RUN, 1, thing)
                self.assertRaises(NoHouse, carried, RUN, thing, None)
        for one, other in ((0, 2), (2, 0), (0, 0), (1, 1)):
            self.assertRaises(NoTie, carried, RUN, one, other)
        self.assertRaises(NoTie, carried, Record(BARE, ()), 9, 0)


class Facts(unittest.TestCase):
    def test_the_fact_of_orders(self):
        for seed in range(80):
            draw = Draw(seed)
            web, events = drawn_events(draw)
            record, story = Record(web, events), Story(web, events)
            for other in (by_least(record), Record(web, shuffled(draw, record, story.direct))):
                self.assertIs(is_alike(record, other), True)
                self.assertEqual(len(causes(other)), len(other.events))
                self.assertIn((first_wrong(other) or (0, "early"))[1], ("early",))
                many = len(other.events)
                self.assertEqual(glass_then(other, many), glass_then(record, many))
                self.assertEqual(longest_chain(other), longest_chain(record))
                for one, two in [(one, two) for one in range(web.many) for two in around(web, one)]:
                    self.assertEqual(carried(other, one, two), carried(record, one, two))

    def test_the_fact_of_carrying(self):
        for seed in range(40):
            draw = Draw(seed)
            web, events = drawn_events(draw)
            done = len(causes(Record(web, events)))
            at = draw.below(done + 1)
            record = Record(web, events[:at])
            states, ways = glass_then(record, at)
            words = {way[:2]: way[2] for way in ways}
            for house in range(web.many):
                due = 0
                for place, other in enumerate(around(web, house)):
                    due += carried(record, other, house) - carried(record, house, other)
                    due -= sum(word[1] for word in words.get((house, other), ()) if word[0] in ("pour", "push"))
                    if "no" in [word[0] for word in words.get((other, house), ())]:
                        due -= states[house][5][place]
                self.assertEqual(states[house][2], due)

    def test_streams_come_of_what_was_carried_alone(self):
        for seed in range(40):
            draw = Draw(seed)
            web = drawn_web(draw, many=2 + seed % 6)
            record = recorded(web, [draw.below(50) for _ in range(50)])
            glass = glass_then(record, len(record.events))
            self.assertEqual(glass[1], ())
            stream = tuple(carried(record, a, b) - carried(record, b, a) for a, b, _, _ in web.ties)
            self.assertEqual(stream_of(web, glass), stream)
            self.assertIs(is_stream(web, stream), True)

    def test_the_fact_of_knowing(self):
        takes = 0
        for web, record, story in drawn_stories(80):
            for event, vector, because in zip(story.done, vectors(record), story.all):
                if event[0] == "take":
                    self.assertIn(("start", web.spring), [story.done[index] for index in because])
                    self.assertTrue(vector[web.spring] > 0)
                    takes += 1
        self.assertTrue(takes > 900, takes)


class Longest(unittest.TestCase):
    def test_records_of_3000_events(self):
        web = drawn_web(Draw(5), many=5, shape="all")
        run = recorded(web, (3, 1, 4)).events
        between = [house for house in range(5) if house not in (web.spring, web.mouth)]
        events = (run + tuple(("still", between[at % 3]) for at in range(3000)))[:3000]
        record, story = Record(web, events), Story(web, events)
        self.assertEqual(len(causes(record)), 3000)
        self.assertEqual(vectors(record), story.vectors())
        self.assertEqual(longest_chain(record), story.longest())
        self.assertEqual(sorted(by_least(record).events, key=repr), sorted(events, key=repr))
        self.assertEqual([seen(by_least(record), house) for house in range(5)],
                         [tuple(event for event in events if house_of(event) == house) for house in range(5)])


if __name__ == "__main__":
    unittest.main()
