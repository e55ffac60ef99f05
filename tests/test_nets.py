"""[9.1] and [9.2]: nets that are led through faults, held against a plain account, and how they settle."""
import unittest

from moststream.disks import Disk
from moststream.ends import bounds, stream_of
from moststream.errors import BadDeeds, NoDeed, NoHouse, NoNumber
from moststream.glass import broken, first_glass, is_glass
from moststream.nets import Net, led_by, round_trip, settle
from moststream.posts import Post
from moststream.rows import sealed, unsealed
from moststream.savings import SavedHouse
from moststream.streams import is_stream, most, worth
from moststream.webs import Web
from tests.drawn import Draw, no_houses, odd_things
from tests.drawn_parcels import drawn_bytes
from tests.drawn_posts import drawn_lively_web
from tests.plain import least_side
from tests.plain_nets import PlainNet
from tests.test_disks import told
from tests.test_posts import BAR, WEB, letter_of
from tests.test_savings import START, first_of, heard_block, pour

LONE = Web(2, (), 0, 1)


def stands(net):
    """All that stands in a net."""
    many = len(net.glass()[0])
    return (net.glass(), net.bag(), [told(net.disk(number)) for number in range(many)],
            [net.house(number).past() for number in range(many)])


def plain_stands(plain):
    return (plain.glass(), plain.bag, [(house.disk.blocks(), house.disk.synced()) for house in plain.houses],
            [house.post.past() for house in plain.houses])


class Begins(unittest.TestCase):
    def test_houses_and_disks(self):
        for web in (WEB, BAR, LONE):
            net = Net(web)
            self.assertEqual((net.glass(), net.bag()), (first_glass(web), []))
            for number in range(web.many):
                self.assertIs(type(net.house(number)), SavedHouse)
                self.assertIs(net.house(number), net.house(number))
                self.assertEqual(net.house(number).past(), Post(web, number).past())
                self.assertIs(type(net.disk(number)), Disk)
                self.assertEqual(told(net.disk(number)), ([first_of(web, number)], 1))

    def test_no_house(self):
        net = Net(WEB)
        for thing in no_houses(3):
            if not (type(thing) is int and 0 <= thing < 3):
                self.assertRaises(NoHouse, net.house, thing)
                self.assertRaises(NoHouse, net.disk, thing)

    def test_disks_are_copies_and_bags_are_new(self):
        net = Net(WEB)
        net.deed(("send", 0, (1,)))
        net.disk(0).drop(0)
        net.bag().append(None)
        net.bag().clear()
        self.assertEqual((told(net.disk(0)), net.bag()), (([first_of(WEB, 0)], 1), [(0, (1,))]))

    def test_the_house_itself(self):
        net = Net(WEB)
        net.house(0).deed(("start",))
        self.assertEqual(net.glass()[0][0][0], "awake")
        self.assertEqual(told(net.disk(0)), ([first_of(WEB, 0), START], 1))

    def test_nets_are_apart(self):
        one, other = Net(WEB), Net(WEB)
        one.deed(("start", 0))
        self.assertEqual(other.glass(), first_glass(WEB))
        self.assertNotEqual(one, other)


class Deeds(unittest.TestCase):
    def setUp(self):
        self.net = Net(WEB)

    def cant(self, *things):
        before = stands(self.net)
        for thing in things:
            with self.subTest(repr(thing)[:60]):
                self.assertRaises(NoDeed, self.net.deed, thing)
                self.assertEqual(stands(self.net), before)

    def test_start_and_keep(self):
        self.cant(("start", 1), ("start", 2), ("start", 3), ("start", False), ("keep", 3), ("keep", True))
        self.assertIsNone(self.net.deed(("start", 0)))
        self.cant(("start", 0))
        self.assertEqual(self.net.deed(("keep", 0)), 3)
        self.assertEqual(self.net.deed(("keep", 1)), 2)
        self.assertEqual(told(self.net.disk(0))[1], 3)

    def test_glass_has_the_words_that_wait_and_are_not_yet_taken(self):
        self.net.deed(("start", 0))
        self.assertEqual(self.net.glass()[1], ((0, 1, (("pour", 3),)),))
        self.net.deed(("post", 0, 1))
        self.assertEqual(self.net.glass()[1], ((0, 1, (("pour", 3),)),))
        self.net.deed(("bring", 0))
        words = ((1, 0, (("rise", 1),)), (1, 2, (("rise", 1), ("push", 2, 1))))
        self.assertEqual(self.net.glass()[1], words)
        self.assertEqual(self.net.house(0).past()[1], ((0, (("pour", 3),)),))
        self.assertTrue(is_glass(WEB, self.net.glass()))

    def test_post_and_bring(self):
        self.net.deed(("start", 0))
        self.assertIsNone(self.net.deed(("post", 0, 1)))
        self.assertIsNone(self.net.deed(("post", 1, 0)))
        self.assertEqual(self.net.bag(), [(1, pour()), (0, letter_of(1, 0, 0, ()))])
        self.assertEqual(told(self.net.disk(0))[1], 2)
        self.assertEqual(self.net.deed(("bring", 1)), "old")
        self.assertEqual(self.net.bag(), [(1, pour())])
        self.net.deed(("double", 0))
        self.net.deed(("send", 1, (5,)))
        self.assertEqual([self.net.deed(("bring", 0)) for _ in range(3)], ["new", "old", "none"])
        self.assertEqual(self.net.bag(), [])
        self.assertEqual(told(self.net.disk(1)), ([first_of(WEB, 1), heard_block(pour())], 1))
        self.cant(("post", 0, 2), ("post", 2, 0), ("post", 0, 0), ("post", 3, 1), ("post", 1, 3), ("post", -1, 0),
                  ("post", False, 1), ("post", 0, True), ("bring", 0), ("bring", -1), ("bring", False))

    def test_lose_double_and_send(self):
        for row in ((1,), (2,), (3,)):
            self.assertIsNone(self.net.deed(("send", 1, row)))
        self.assertIsNone(self.net.deed(("double", 1)))
        self.assertEqual([row for _, row in self.net.bag()], [(1,), (2,), (3,), (2,)])
        self.assertIsNone(self.net.deed(("lose", 1)))
        self.assertEqual([row for _, row in self.net.bag()], [(1,), (3,), (2,)])
        self.cant(("lose", 3), ("lose", -1), ("lose", True), ("double", 3), ("double", -1), ("double", None),
                  ("bring", 3))

    def test_send_is_of_rows_that_are_sealed_of_nothing(self):
        for row in ((), (0,), (255,) * 30, pour()[:-1], pour() + (0,), tuple(range(256))):
            self.assertIsNone(self.net.deed(("send", 2, row)))
            self.assertEqual(self.net.bag()[-1], (2, row))
        self.cant(("send", 1, pour()), ("send", 1, sealed(None)), ("send", 3, ()), ("send", True, ()), ("send", -1, ()),
                  ("send", 1, [1]), ("send", 1, (256,)), ("send", 1, (True,)), ("send", 1, None), ("send", 1, "a"),
                  ("send", 1, b"a"))

    def test_spoil(self):
        row = pour()
        led_by(self.net, [("start", 0), ("send", 0, ()), ("post", 0, 1), ("send", 0, (7, 8))])
        self.assertIsNone(self.net.deed(("spoil", 1, 3, row[3])))
        self.assertEqual(self.net.bag()[1], (1, row))
        self.cant(("spoil", 0, 0, 0), ("spoil", 1, len(row), 0), ("spoil", 1, -1, 0), ("spoil", 1, 0, 256),
                  ("spoil", 1, 0, -1), ("spoil", 1, True, 0), ("spoil", 1, 0, False), ("spoil", 3, 0, 0),
                  ("spoil", True, 0, 0), ("spoil", -1, 0, 0), ("spoil", 1, None, 0), ("spoil", 1, 0, "0"))
        self.assertIsNone(self.net.deed(("spoil", 1, 3, row[3] ^ 1)))
        spoilt = row[:3] + (row[3] ^ 1,) + row[4:]
        self.assertEqual(self.net.bag(), [(0, ()), (1, spoilt), (0, (7, 8))])
        self.cant(("spoil", 1, 3, row[3]))
        self.assertIsNone(self.net.deed(("spoil", 2, 1, 255)))
        self.assertEqual(self.net.bag()[2], (0, (7, 255)))
        self.assertEqual(self.net.deed(("bring", 1)), "none")

    def test_cut(self):
        self.net.deed(("start", 0))
        self.cant(("cut", 0, ()), ("cut", 0, (len(START) + 1,)), ("cut", 0, (-1,)), ("cut", 0, (True,)),
                  ("cut", 0, [0]), ("cut", 0, (0, 0)), ("cut", 0, None), ("cut", 3, ()), ("cut", True, ()),
                  ("cut", 1, (0,)))
        elder = self.net.house(0)
        self.assertIsNone(self.net.deed(("cut", 0, (len(START),))))
        self.assertIsNot(self.net.house(0), elder)
        self.assertEqual(self.net.house(0).past(), elder.past())
        self.assertIsNone(self.net.deed(("cut", 1, ())))
        net = Net(WEB)
        net.deed(("start", 0))
        net.deed(("cut", 0, (len(START) - 1,)))
        self.assertEqual(stands(net), stands(Net(WEB)))

    def test_no_deeds(self):
        self.net.deed(("send", 0, (1,)))
        self.cant((), ("start",), ("start", 0, 0), ["start", 0], ("Start", 0), ("hear", 0), (("start",), 0),
                  (b"start", 0), (None,), ("stop",), ("keep",), ("post", 0), ("post", 0, 1, 0), ("bring",),
                  ("bring", 0, 0), ("lose",), ("lose", 0, 0), ("double", 0, 0), ("spoil", 0, 0),
                  ("spoil", 0, 0, 0, 0), ("send", 0), ("send", 0, (), 0), ("cut", 0), ("cut", 0, (), 0),
                  "start", None, {"start": 0}, *odd_things())
        for sort in ("start", "keep", "bring", "lose", "double"):
            self.cant(*[(sort, thing) for thing in odd_things() if not (type(thing) is int and thing == 0)])
        for thing in odd_things():
            self.cant(("post", thing, 1), ("post", 1, thing), ("spoil", thing, 0, 1), ("spoil", 0, thing, 1),
                      ("spoil", 0, 0, thing), ("send", thing, ()), ("cut", thing, ()))
            if thing != ():
                self.cant(("cut", 0, thing))


class LedBy(unittest.TestCase):
    DEEDS = [("start", 0), ("post", 0, 1), ("bring", 0), ("keep", 1), ("send", 2, (1,)), ("bring", 0)]

    def test_tells_what_they_returned(self):
        for kind in (list, tuple):
            net = Net(WEB)
            self.assertEqual(led_by(net, kind(self.DEEDS)), [None, None, "new", 3, None, "none"])
            self.assertEqual(net.house(1).past()[2][0], (1, ()))
        self.assertEqual(led_by(Net(WEB), ()), [])
        self.assertEqual(led_by(Net(WEB), []), [])

    def test_those_ahead_are_done(self):
        for index in range(len(self.DEEDS)):
            for bad in (("start", 0) if index else ("start", 1), None, ("bring", 9)):
                net, other = Net(WEB), Net(WEB)
                with self.assertRaises(BadDeeds) as raised:
                    led_by(net, self.DEEDS[:index] + [bad] + self.DEEDS[index:])
                self.assertEqual(raised.exception.index, index)
                led_by(other, self.DEEDS[:index])
                self.assertEqual(stands(net), stands(other))

    def test_no_deeds(self):
        net = Net(WEB)
        for thing in odd_things() + ["start", {0: ("start", 0)}, iter([("start", 0)])]:
            if not isinstance(thing, (list, tuple)):
                index = -1
            elif len(thing) > 0:
                index = 0
            else:
                continue
            with self.assertRaises(BadDeeds) as raised:
                led_by(net, thing)
            self.assertEqual(raised.exception.index, index)
        self.assertEqual(stands(net), stands(Net(WEB)))

    def test_what_is_passed_stays(self):
        deeds = list(self.DEEDS)
        found = led_by(Net(WEB), deeds)
        found.append(1)
        self.assertEqual(deeds, self.DEEDS)


class Settles(unittest.TestCase):
    def test_a_round_trip(self):
        net = Net(WEB)
        net.deed(("send", 1, (5,)))
        self.assertIsNone(round_trip(net))
        self.assertEqual(net.bag(), [(1, (5,))])
        self.assertEqual(net.glass()[0][0][0], "awake")
        plain = PlainNet(WEB)
        plain.bag = [(1, (5,))]
        plain.round_trip()
        self.assertEqual(stands(net), plain_stands(plain))

    def test_settle_with_none_and_with_most(self):
        net = Net(WEB)
        self.assertEqual(settle(net, 0), 0)
        self.assertEqual(stands(net), stands(Net(WEB)))
        trips = settle(net, 100000)
        self.assertEqual(stream_of(WEB, net.glass()), (2, 2))
        self.assertEqual(net.glass()[1], ())
        self.assertTrue(1 < trips <= sum(bounds(WEB)) + 2)
        before = stands(net)
        self.assertEqual(settle(net, 100000), 0)
        self.assertEqual(stands(net), before)
        self.assertEqual(settle(Net(LONE), 5), 1)
        self.assertEqual(settle(Net(WEB), trips), trips)
        self.assertEqual(settle(Net(WEB), trips - 1), trips - 1)

    def test_no_number(self):
        net = Net(WEB)
        for thing in [100001, -1, 10 ** 19, True, False, None, "5", (1,), [1], *odd_things()]:
            self.assertRaises(NoNumber, settle, net, thing)
        self.assertEqual(stands(net), stands(Net(WEB)))

    def test_trip_by_trip(self):
        for seed in range(15):
            web = drawn_lively_web(Draw(seed))
            one, other, plain = Net(web), Net(web), PlainNet(web)
            while not plain.is_settled():
                self.assertEqual(settle(one, 1), 1)
                round_trip(other)
                plain.round_trip()
                self.assertEqual(stands(one), stands(other))
                self.assertEqual(stands(one), plain_stands(plain))
            self.assertEqual(settle(one, 1), 0)
            self.assertEqual(stands(one), stands(other))

    def test_words_that_are_taken_but_not_known_to_be_still_wait(self):
        net = Net(Web(2, ((0, 1, 3, 0),), 0, 1))
        led_by(net, [("start", 0), ("post", 0, 1), ("bring", 0)])
        self.assertEqual(net.glass()[1], ())
        self.assertEqual(settle(net, 9), 1)
        self.assertEqual(settle(net, 9), 0)


class Drawn(unittest.TestCase):
    """Nets led by drawn deeds, beside a plain account; at every moment no sum is broken, and words keep to bounds."""

    def test_led_by_drawn_deeds(self):
        done = {}
        for seed in range(30):
            draw = Draw(seed)
            web = drawn_lively_web(draw)
            net, plain = Net(web), PlainNet(web)
            for _ in range(120):
                deed = self.drawn_deed(draw, plain)
                due = plain.do(deed)
                if due:
                    self.assertEqual([net.deed(deed)], due)
                    told_of = (deed[0], due[0] if deed[0] == "bring" else None)
                    done[told_of] = done.get(told_of, 0) + 1
                else:
                    self.assertRaises(NoDeed, net.deed, deed)
                self.assertEqual(stands(net), plain_stands(plain))
                self.check_sums(web, net, plain)
            self.check_end(draw, web, net, plain)
        self.assertEqual(len(done), 11)
        self.assertGreater(min(done.values()), 20, done)

    def drawn_deed(self, draw, plain):
        sort = draw.one_of(("start", "keep", "post", "post", "post", "bring", "bring", "bring", "lose", "double",
                            "spoil", "send", "cut", "cut"))
        k = draw.below(len(plain.bag) + 1)
        k = max(k, len(plain.bag) - 1 - draw.below(4)) if draw.below(2) else k
        number = draw.below(plain.web.many + (draw.below(9) == 0))
        if sort == "start":
            return sort, plain.web.spring
        if sort == "keep":
            return sort, number
        if sort == "post":
            one, other = draw.one_of(plain.ways) if plain.ways else (0, 1)
            return sort, one, other if draw.below(9) else number
        if sort in ("bring", "lose", "double"):
            return sort, k
        if sort == "spoil":
            return sort, k, draw.below(30), draw.below(256)
        if sort == "send":
            return sort, number, drawn_bytes(draw, draw.below(9))
        blocks = plain.houses[min(number, plain.web.many - 1)].disk
        waiting = blocks.blocks()[blocks.synced():]
        return sort, number, tuple(draw.one_of((0, len(row), draw.below(len(row) + 1))) for row in waiting)

    def check_sums(self, web, net, plain):
        self.assertEqual(broken(web, net.glass()), ())
        self.assertTrue(all(many <= most_of for many, most_of in zip(plain.taken(), bounds(web))))

    def check_end(self, draw, web, net, plain):
        """Settled, perhaps a few trips at a time, it has the greatest stream."""
        total, most_trips = 0, draw.one_of((1, 2, 7, 100000))
        trips = settle(net, most_trips)
        while trips == most_trips:
            self.assertEqual(broken(web, net.glass()), ())
            total += trips
            trips = settle(net, most_trips)
        self.assertLessEqual(total + trips, sum(bounds(web)) + 2)
        stream = stream_of(web, net.glass())
        self.assertTrue(is_stream(web, stream))
        self.assertEqual(worth(web, stream), least_side(web))
        self.assertEqual(worth(web, stream), most(web))
        self.assertEqual(net.glass()[1], ())
        while not plain.is_settled():
            plain.round_trip()
        self.check_sums(web, net, plain)
        self.assertEqual(stands(net), plain_stands(plain))
        # What is still in the bag comes late, and changes nothing of the end.
        end = net.glass()
        while net.bag():
            self.assertIn(net.deed(("bring", 0)), ("old", "none"))
        self.assertEqual(net.glass(), end)

    def test_led_by_against_posts_led_apart(self):
        for seed in range(25):
            draw = Draw(seed)
            web = drawn_lively_web(draw)
            net, posts, bag, deeds, due = Net(web), [Post(web, k) for k in range(web.many)], [], [], []
            ways = [(one, other) for one in range(web.many) for other in range(web.many)
                    if any(tie[:2] == (min(one, other), max(one, other)) for tie in web.ties)]
            deeds.append(("start", web.spring))
            due.append(posts[web.spring].deed(("start",)))
            for _ in range(100):
                if draw.below(2) and ways:
                    one, other = draw.one_of(ways)
                    bag.append((other, posts[one].letter(other)))
                    deeds.append(("post", one, other))
                    due.append(None)
                elif bag:
                    k = draw.below(len(bag))
                    to, row = bag.pop(k)
                    deeds.append(("bring", k))
                    due.append(posts[to].deed(("hear", row)))
            self.assertEqual(led_by(net, deeds), due)
            self.assertEqual([net.house(k).past() for k in range(web.many)], [post.past() for post in posts])
            self.assertEqual(net.bag(), bag)

    def test_pasts_kept_and_disks_cut_at_the_worst_moments(self):
        """All that waits is lost, of each house, ahead of each letter, again and again."""
        for seed in range(10):
            web = drawn_lively_web(Draw(seed))
            net = Net(web)
            for trip in range(12):
                for number in range(web.many):
                    waiting = net.disk(number).blocks()[net.disk(number).synced():]
                    net.deed(("cut", number, (0,) * len(waiting)))
                    if trip % 3 == 0:
                        net.deed(("keep", number))
                self.assertEqual(broken(web, net.glass()), ())
                round_trip(net)
            settle(net, 100000)
            self.assertEqual(worth(web, stream_of(web, net.glass())), least_side(web))

    def test_rows_on_their_way_tell_of_their_house(self):
        net = Net(WEB)
        net.deed(("post", 1, 2))
        self.assertEqual(unsealed(net.bag()[0][1]), (("letter", 1, 2, 0, ()),))


if __name__ == "__main__":
    unittest.main()
