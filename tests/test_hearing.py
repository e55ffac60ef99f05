"""[2.2] and [2.3]: what a house does with each word that it hears."""
import unittest

from moststream.errors import NoHouse, NoWord
from moststream.states import begun, heard, is_state, is_word
from moststream.webs import Web
from tests.drawn import Draw, drawn_web, no_houses, odd_things, part_of
from tests.plain import House, around, tie_of

ROW = Web(3, ((0, 1, 3, 0), (1, 2, 2, 0)), 0, 2)
# House 2 stands between the spring 0, the mouth 4, and 1 and 3; each tie lets ten units through either way.
MIDDLE = Web(5, ((0, 2, 10, 10), (1, 2, 10, 10), (2, 3, 10, 10), (2, 4, 10, 10)), 0, 4)
ZEROS = (0, 0, 0, 0)


def state(height, held, streams=ZEROS, beliefs=ZEROS, sent=ZEROS, stage="awake"):
    made = (stage, height, held, streams, beliefs, sent)
    assert is_state(MIDDLE, 2, made)
    return made


def hear(before, sender, word):
    return heard(MIDDLE, 2, before, sender, word)


class Pour(unittest.TestCase):
    def test_example(self):
        self.assertEqual(heard(ROW, 1, begun(ROW, 1), 0, ("pour", 3)),
                         (("awake", 1, 1, (-3, 2), (3, 0), (0, 2)),
                          ((0, ("rise", 1)), (2, ("rise", 1)), (2, ("push", 2, 1)))))

    def test_the_mouth_wakes_and_does_nothing_more(self):
        web = Web(2, ((0, 1, 5, 5),), 0, 1)
        self.assertEqual(heard(web, 1, begun(web, 1), 0, ("pour", 5)), (("awake", 0, 5, (-5,), (2,), (0,)), ()))

    def test_of_fewer_units_than_there_is_room_for(self):
        before = state(0, 0, beliefs=(5, 9, 9, 9), stage="asleep")
        self.assertEqual(hear(before, 0, ("pour", 4)),
                         (state(6, 0, streams=(0, 0, 0, 0), beliefs=(5, 9, 9, 9), sent=(4, 0, 0, 0)),
                          tuple((other, ("rise", 6)) for other in (0, 1, 3, 4)) + ((0, ("push", 4, 6)),)))

    def test_just_the_room_and_one_more(self):
        before = state(0, -90, streams=(-4, 0, 0, 0), stage="asleep")
        self.assertEqual(hear(before, 0, ("pour", 6)), (state(0, -84, streams=(-10, 0, 0, 0)), ()))
        with self.assertRaises(NoWord):
            hear(before, 0, ("pour", 7))

    def test_only_of_the_spring_and_asleep(self):
        for sender in (1, 3, 4):
            with self.assertRaises(NoWord):
                hear(state(0, 0, stage="asleep"), sender, ("pour", 1))
        with self.assertRaises(NoWord):
            hear(state(0, 0), 0, ("pour", 1))
        self.assertRaises(NoWord, heard, ROW, 2, begun(ROW, 2), 1, ("pour", 1))


class Push(unittest.TestCase):
    def test_taken_from_one_higher(self):
        before = state(3, -5)
        self.assertEqual(hear(before, 1, ("push", 4, 4)),
                         (state(3, -1, streams=(0, -4, 0, 0), beliefs=(0, 4, 0, 0)), ((1, ("yes",)),)))

    def test_refused_from_any_other_height(self):
        for height in (0, 1, 2, 3, 5, 6, 999):
            before = state(3, -5)
            self.assertEqual(hear(before, 1, ("push", 4, height)),
                             (state(3, -5, beliefs=(0, height, 0, 0)), ((1, ("no", 3)),)))

    def test_the_told_height_counts_even_if_the_belief_is_greater(self):
        self.assertEqual(hear(state(3, -5, beliefs=(0, 9, 0, 0)), 1, ("push", 4, 4)),
                         (state(3, -1, streams=(0, -4, 0, 0), beliefs=(0, 9, 0, 0)), ((1, ("yes",)),)))
        self.assertEqual(hear(state(3, -5, beliefs=(0, 4, 0, 0)), 1, ("push", 4, 2)),
                         (state(3, -5, beliefs=(0, 4, 0, 0)), ((1, ("no", 3)),)))

    def test_the_answer_is_sent_ahead_of_what_is_done_then(self):
        self.assertEqual(hear(state(1, 0), 3, ("push", 4, 2)),
                         (state(1, 0, streams=(4, 0, -4, 0), beliefs=(0, 0, 2, 0), sent=(4, 0, 0, 0)),
                          ((3, ("yes",)), (0, ("push", 4, 1)))))

    def test_refused_pushes_too_let_a_house_act(self):
        before = state(0, 5, beliefs=(9, 9, 3, 9), sent=ZEROS)
        after, out = hear(before, 3, ("push", 1, 5))
        self.assertEqual(out[0], (3, ("no", 0)))
        self.assertEqual(out[1:5], tuple((other, ("rise", 6)) for other in (0, 1, 3, 4)))
        self.assertEqual(out[5:], ((3, ("push", 5, 6)),))
        self.assertEqual(after, state(6, 0, streams=(0, 0, 5, 0), beliefs=(9, 9, 5, 9), sent=(0, 0, 5, 0)))

    def test_just_the_room_and_one_more(self):
        # What is sent to the sender has not come to it yet: its room is less by that.
        for stream, sent, most_units in ((0, 0, 10), (-3, 0, 7), (6, 0, 16), (6, 6, 10), (6, 4, 12), (-10, 0, 0)):
            before = state(3, -90, streams=(0, stream, 0, 0), sent=(0, sent, 0, 0))
            with self.assertRaises(NoWord):
                hear(before, 1, ("push", most_units + 1, 4))
            with self.assertRaises(NoWord):
                hear(before, 1, ("push", most_units + 1, 7))
            if most_units:
                self.assertEqual(hear(before, 1, ("push", most_units, 4))[1], ((1, ("yes",)),))
                self.assertEqual(hear(before, 1, ("push", most_units, 7))[1], ((1, ("no", 3)),))

    def test_by_the_way_that_the_tie_lets_through(self):
        web = Web(4, ((0, 1, 4, 3), (1, 2, 6, 5), (1, 3, 2, 0)), 0, 3)
        before = ("awake", 0, -90, (0, 0, 0), (0, 0, 0), (0, 0, 0))
        self.assertEqual(heard(web, 1, before, 2, ("push", 5, 1))[1], ((2, ("yes",)),))
        self.assertRaises(NoWord, heard, web, 1, before, 2, ("push", 6, 1))
        self.assertEqual(heard(web, 1, before, 0, ("push", 4, 1))[1], ((0, ("yes",)),))
        self.assertRaises(NoWord, heard, web, 1, before, 0, ("push", 5, 1))
        self.assertRaises(NoWord, heard, web, 1, before, 3, ("push", 1, 1))

    def test_by_a_house_that_is_asleep(self):
        before = state(0, 0, stage="asleep")
        self.assertEqual(hear(before, 1, ("push", 4, 1)),
                         (state(0, 4, streams=(0, -4, 0, 0), beliefs=(0, 1, 0, 0), stage="asleep"), ((1, ("yes",)),)))
        self.assertEqual(hear(before, 1, ("push", 4, 2)),
                         (state(0, 0, beliefs=(0, 2, 0, 0), stage="asleep"), ((1, ("no", 0)),)))

    def test_by_spring_and_mouth(self):
        web = Web(3, ((0, 1, 9, 9), (1, 2, 9, 9)), 0, 2)
        awake = ("awake", 3, 2, (5,), (0,), (0,))
        self.assertEqual(heard(web, 0, awake, 1, ("push", 4, 4)),
                         (("awake", 3, 6, (1,), (4,), (0,)), ((1, ("yes",)),)))
        self.assertEqual(heard(web, 0, awake, 1, ("push", 4, 3)),
                         (("awake", 3, 2, (5,), (3,), (0,)), ((1, ("no", 3)),)))
        self.assertEqual(heard(web, 2, begun(web, 2), 1, ("push", 4, 1)),
                         (("awake", 0, 4, (-4,), (1,), (0,)), ((1, ("yes",)),)))
        self.assertEqual(heard(web, 2, begun(web, 2), 1, ("push", 4, 2)),
                         (("awake", 0, 0, (0,), (2,), (0,)), ((1, ("no", 0)),)))


class Answers(unittest.TestCase):
    def test_yes(self):
        before = state(2, 0, streams=(0, 4, 0, 0), sent=(0, 4, 3, 0))
        self.assertEqual(hear(before, 1, ("yes",)), (state(2, 0, streams=(0, 4, 0, 0), sent=(0, 0, 3, 0)), ()))

    def test_no(self):
        before = state(2, -9, streams=(0, 4, 0, 0), beliefs=(0, 1, 0, 0), sent=(0, 4, 3, 0))
        self.assertEqual(hear(before, 1, ("no", 7)),
                         (state(2, -5, beliefs=(0, 7, 0, 0), sent=(0, 0, 3, 0)), ()))
        self.assertEqual(hear(before, 1, ("no", 0)),
                         (state(2, -5, beliefs=(0, 1, 0, 0), sent=(0, 0, 3, 0)), ()))

    def test_only_where_something_is_sent(self):
        before = state(2, 0, streams=(0, 4, 0, 0), sent=(0, 4, 0, 0))
        for sender in (0, 3, 4):
            for word in (("yes",), ("no", 3)):
                with self.assertRaises(NoWord):
                    hear(before, sender, word)

    def test_a_house_goes_on_behind_them(self):
        before = state(1, 6, streams=(0, 10, 0, 0), beliefs=(9, 0, 9, 0), sent=(0, 10, 0, 0))
        self.assertEqual(hear(before, 1, ("yes",)),
                         (state(1, 0, streams=(0, 10, 0, 6), beliefs=(9, 0, 9, 0), sent=(0, 0, 0, 6)),
                          ((4, ("push", 6, 1)),)))
        self.assertEqual(hear(before, 1, ("no", 4))[1],
                         ((4, ("push", 10, 1)),))
        before = state(1, 0, streams=(0, 10, 0, 0), beliefs=(9, 0, 9, 9), sent=(0, 10, 0, 0))
        self.assertEqual(hear(before, 1, ("no", 4)),
                         (state(5, 0, streams=(0, 10, 0, 0), beliefs=(9, 4, 9, 9), sent=(0, 10, 0, 0)),
                          tuple((other, ("rise", 5)) for other in (0, 1, 3, 4)) + ((1, ("push", 10, 5)),)))

    def test_by_houses_asleep_or_at_an_end(self):
        before = state(1, 0, streams=(0, 10, 0, 0), sent=(0, 10, 0, 0), stage="asleep")
        self.assertEqual(hear(before, 1, ("no", 4)), (state(1, 10, beliefs=(0, 4, 0, 0), stage="asleep"), ()))
        mouth = ("awake", 1, 5, (3,), (0,), (3,))
        self.assertEqual(heard(MIDDLE, 4, mouth, 2, ("no", 0)), (("awake", 1, 8, (0,), (0,), (0,)), ()))
        self.assertEqual(heard(MIDDLE, 0, mouth, 2, ("yes",)), (("awake", 1, 5, (3,), (0,), (0,)), ()))


class Rise(unittest.TestCase):
    def test_beliefs_only_grow(self):
        before = state(2, 0, beliefs=(0, 5, 0, 0))
        for height, belief in ((0, 5), (5, 5), (6, 6), (999, 999)):
            self.assertEqual(hear(before, 1, ("rise", height)), (state(2, 0, beliefs=(0, belief, 0, 0)), ()))

    def test_a_house_goes_on_behind_it(self):
        before = state(2, 3, beliefs=(1, 1, 9, 9), streams=(10, 10, 0, 0), sent=(0, 0, 0, 0))
        self.assertEqual(hear(before, 1, ("rise", 5)),
                         (state(10, 0, beliefs=(1, 5, 9, 9), streams=(10, 10, 3, 0), sent=(0, 0, 3, 0)),
                          tuple((other, ("rise", 10)) for other in (0, 1, 3, 4)) + ((3, ("push", 3, 10)),)))

    def test_houses_asleep_spring_and_mouth_do_nothing_more(self):
        for stage in ("asleep", "awake"):
            for web, house in ((MIDDLE, 0), (MIDDLE, 4), (Web(5, MIDDLE.ties, 1, 3), 0)):
                before = (stage, 0, 5, (0,), (0,), (0,))
                if house == 0 and web.spring == 0 and stage == "asleep":
                    self.assertRaises(NoWord, heard, web, house, before, 2, ("rise", 4))
                elif stage == "asleep" or web.spring == 0:
                    after = (stage, 0, 5, (0,), (4,), (0,))
                    self.assertEqual(heard(web, house, before, 2, ("rise", 4)), (after, ()))
                else:
                    self.assertEqual(heard(web, house, before, 2, ("rise", 4))[1],
                                     ((2, ("rise", 5)), (2, ("push", 5, 5))))


class Acts(unittest.TestCase):
    """What a house does by itself, shown behind a rise that changes nothing."""

    def acts(self, before):
        return hear(before, 0, ("rise", 0))

    def test_nothing_without_units(self):
        for held in (0, -1, -10 ** 19):
            before = state(1, held)
            self.assertEqual(self.acts(before), (before, ()))

    def test_pushes_to_the_least_that_is_one_lower(self):
        self.assertEqual(self.acts(state(1, 3, beliefs=(1, 2, 0, 0))),
                         (state(1, 0, streams=(0, 0, 3, 0), beliefs=(1, 2, 0, 0), sent=(0, 0, 3, 0)),
                          ((3, ("push", 3, 1)),)))

    def test_pushes_no_more_than_the_room_and_goes_on(self):
        self.assertEqual(self.acts(state(1, 25, streams=(0, 4, 0, -2))),
                         (state(1, 0, streams=(10, 10, 9, -2), sent=(10, 6, 9, 0)),
                          ((0, ("push", 10, 1)), (1, ("push", 6, 1)), (3, ("push", 9, 1)))))

    def test_just_the_room_is_pushed_to_one(self):
        self.assertEqual(self.acts(state(1, 10))[1], ((0, ("push", 10, 1)),))
        self.assertEqual(self.acts(state(1, 11))[1], ((0, ("push", 10, 1)), (1, ("push", 1, 1))))

    def test_not_without_room_nor_where_something_is_sent(self):
        before = state(1, 5, streams=(10, 5, 0, 0), beliefs=(0, 0, 0, 1), sent=(0, 5, 0, 0))
        self.assertEqual(self.acts(before)[1], ((3, ("push", 5, 1)),))

    def test_waits_while_something_is_sent(self):
        for sent in ((1, 0, 0, 0), (0, 0, 0, 1)):
            before = state(1, 5, streams=sent, beliefs=(3, 3, 3, 3), sent=sent)
            self.assertEqual(self.acts(before), (before, ()))

    def test_does_not_push_much_lower(self):
        before = state(5, 5, beliefs=(3, 3, 5, 6))
        self.assertEqual(self.acts(before), (before, ()))

    def test_rises_over_the_least_to_which_it_has_room(self):
        after = state(5, 0, streams=(10, 0, 2, 0), beliefs=(1, 6, 4, 6), sent=(0, 0, 2, 0))
        rises = tuple((other, ("rise", 5)) for other in (0, 1, 3, 4))
        self.assertEqual(self.acts(state(2, 2, streams=(10, 0, 0, 0), beliefs=(1, 6, 4, 6))),
                         (after, rises + ((3, ("push", 2, 5)),)))

    def test_a_rise_that_is_not_above_its_height(self):
        for height in (3, 4, 999):
            before = state(height, 2, streams=(10, 10, 10, 0), beliefs=(9, 9, 9, 1))
            self.assertEqual(self.acts(before), (before, ()))
        before = state(2, 2, streams=(10, 10, 10, 0), beliefs=(1, 1, 1, 2))
        self.assertEqual(self.acts(before)[0][1], 3)

    def test_a_rise_that_is_not_below_1000(self):
        full = (10, 10, 10, 0)
        before = state(4, 2, streams=full, beliefs=(0, 0, 0, 999))
        self.assertEqual(self.acts(before), (before, ()))
        before = state(4, 2, streams=full, beliefs=(0, 0, 0, 998))
        self.assertEqual(self.acts(before),
                         (state(999, 0, streams=(10, 10, 10, 2), beliefs=(0, 0, 0, 998), sent=(0, 0, 0, 2)),
                          tuple((other, ("rise", 999)) for other in (0, 1, 3, 4)) + ((4, ("push", 2, 999)),)))

    def test_no_room_anywhere(self):
        before = state(4, 2, streams=(10, 10, 10, 10))
        self.assertEqual(self.acts(before), (before, ()))

    def test_more_than_a_word_may_tell(self):
        before = state(1, 10 ** 19)
        after, out = self.acts(before)
        self.assertEqual(after[2], 10 ** 19 - 40)
        self.assertTrue(all(is_word(word) for _, word in out))


class Refused(unittest.TestCase):
    def test_no_house(self):
        for thing in no_houses(3):
            with self.subTest(repr(thing)[:60]):
                self.assertRaises(NoHouse, heard, ROW, thing, begun(ROW, 1), 0, ("pour", 3))
                self.assertRaises(NoHouse, heard, ROW, 1, begun(ROW, 1), thing, ("pour", 3))
                self.assertRaises(NoHouse, heard, ROW, 1, begun(ROW, 1), thing, None)
                self.assertRaises(NoHouse, heard, ROW, thing, begun(ROW, 1), 0, None)
                self.assertRaises(NoHouse, heard, ROW, thing, begun(ROW, 1), thing, None)

    def test_no_word(self):
        words = [("pour", 0), ("pour", True), ["pour", 3], ("pour", 3, 0), ("pour",), ("rise", 1000), ("start",),
                 *odd_things()]
        for thing in words:
            with self.subTest(repr(thing)[:60]):
                self.assertRaises(NoWord, heard, ROW, 1, begun(ROW, 1), 0, thing)
        self.assertRaises(NoWord, hear, state(1, 0, sent=(0, 0, 0, 0)), 1, ("push", True, 2))

    def test_no_neighbour(self):
        self.assertRaises(NoWord, heard, ROW, 2, begun(ROW, 2), 0, ("rise", 1))
        self.assertRaises(NoWord, heard, ROW, 2, begun(ROW, 2), 2, ("rise", 1))
        self.assertRaises(NoWord, heard, MIDDLE, 3, begun(MIDDLE, 3), 1, ("push", 1, 1))

    def test_the_spring_asleep_hears_nothing(self):
        asleep = ("asleep", 3, 0, (0,), (0,), (0,))
        for word in (("rise", 1), ("push", 1, 4), ("pour", 1), ("yes",), ("no", 1)):
            web = Web(3, ((0, 1, 9, 9), (1, 2, 9, 9)), 0, 2)
            self.assertRaises(NoWord, heard, web, 0, part_of(asleep, 3, (4,)), 1, word)
            self.assertRaises(NoWord, heard, web, 0, asleep[:3] + ((4,), (0,), (4,)), 1, word)
        self.assertEqual(heard(ROW, 0, ("awake", 3, -3, (3,), (0,), (0,)), 1, ("rise", 1)),
                         (("awake", 3, -3, (3,), (1,), (0,)), ()))


def drawn_state(draw, web, house):
    near = around(web, house)
    streams, sent = [], []
    for other in near:
        there, back = tie_of(web, house, other)
        units = draw.one_of((there, -back, draw.among(-back, there), min(there, 0)))
        streams.append(units)
        sent.append(draw.among(0, units + back) if draw.below(3) == 0 else 0)
    height = draw.below(4)
    held = draw.one_of((0, -2, draw.below(9), draw.below(40)))
    beliefs = tuple(draw.below(6) for _ in near)
    return (draw.one_of(("asleep", "awake", "awake")), height, held, tuple(streams), beliefs, tuple(sent))


def drawn_word(draw):
    units, height = draw.among(1, 9), draw.below(6)
    return draw.one_of((("pour", units), ("push", units, height), ("yes",), ("no", height), ("rise", height)))


class AgainstThePlainReading(unittest.TestCase):
    def test_drawn_states_and_words(self):
        done = {}
        for seed in range(8000):
            draw = Draw(seed)
            web = drawn_web(draw, many=draw.among(2, 6), shape=draw.one_of(("some", "all")))
            house = draw.below(web.many)
            before = drawn_state(draw, web, house)
            self.assertIs(is_state(web, house, before), True)
            sender = draw.one_of(around(web, house) * 9 + [draw.below(web.many)])
            word = drawn_word(draw)
            if sender == web.spring and before[0] == "asleep" and draw.below(2):
                word = ("pour", draw.among(1, 9))
            plain = House(web, house, before)
            if plain.refuses(sender, word):
                self.assertRaises(NoWord, heard, web, house, before, sender, word)
                done["refused"] = done.get("refused", 0) + 1
            else:
                plain.hear(sender, word)
                told = heard(web, house, before, sender, word)
                self.assertEqual(told, plain.told())
                self.assertIs(is_state(web, house, told[0]), True)
                self.assertTrue(all(is_word(sent) for _, sent in told[1]))
                done[word[0]] = done.get(word[0], 0) + 1
        self.assertEqual(sorted(done), ["no", "pour", "push", "refused", "rise", "yes"])
        self.assertTrue(min(done.values()) > 90, done)


if __name__ == "__main__":
    unittest.main()
