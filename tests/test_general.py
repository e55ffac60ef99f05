"""[0.2] to [0.5]: kinds of results, nothing passed is changed, equal calls, deep things."""
import unittest

from moststream.desks import Desk
from moststream.disks import Disk, kept_parcels
from moststream.ends import bounds, run_from, run_out, stream_of
from moststream.errors import StreamError
from moststream.films import Reel, drawn, drawn_heights, drawn_stream
from moststream.glass import broken, first_glass, first_glass_of, is_glass, moved, moves
from moststream.kinds import is_int, is_lot, is_number, is_number_below
from moststream.links import Incoming, Outgoing, incoming_of, outgoing_of
from moststream.nets import Net, led_by, round_trip, settle
from moststream.posts import Post, post_of
from moststream.records import (Record, by_least, carried, causes, first_wrong, glass_then, is_alike, longest_chain,
                                recorded, seen, vectors)
from moststream.rows import is_parcel, mark, parcel_of, row_of, sealed, unsealed
from moststream.savings import SavedHouse
from moststream.states import begun, heard, is_state, is_word, started
from moststream.streams import is_paper, is_split, is_stream, most, room, side_of, side_worth, split, worth
from moststream.texts import (moves_text, read_moves, read_record, read_split, read_stream, read_web, record_text,
                              split_text, stream_text, web_text)
from moststream.webs import Web, lets, neighbours
from tests.drawn import nested, odd_things

TIES = ((0, 1, 3, 0), (1, 2, 2, 0))
WEB = Web(3, TIES, 0, 2)
GLASS = first_glass(WEB)
STARTED = moved(WEB, GLASS, ("start", 0))
RUN = recorded(WEB, ())
PAST = Post(WEB, 1).past()


def all_answers(thing):
    """What comes of each argument that may be of any kind: an answer, or the error's class."""
    calls = [
        lambda: Web(thing, TIES, 0, 2), lambda: Web(3, thing, 0, 2), lambda: Web(3, (thing,), 0, 2),
        lambda: Web(3, TIES, thing, 2), lambda: Web(3, TIES, 0, thing), lambda: neighbours(WEB, thing),
        lambda: lets(WEB, thing, 1), lambda: lets(WEB, 1, thing), lambda: is_stream(WEB, thing),
        lambda: worth(WEB, thing), lambda: room(WEB, thing, 0, 1), lambda: room(WEB, (2, 2), thing, 1),
        lambda: room(WEB, (2, 2), 1, thing), lambda: side_worth(WEB, thing), lambda: side_of(WEB, thing),
        lambda: is_paper(WEB, thing, (0,)), lambda: is_paper(WEB, (2, 2), thing), lambda: split(WEB, thing),
        lambda: is_split(WEB, thing, ()), lambda: is_split(WEB, (2, 2), thing), lambda: begun(WEB, thing),
        lambda: is_word(thing), lambda: is_state(WEB, thing, None), lambda: is_state(WEB, 1, thing),
        lambda: started(WEB, thing, begun(WEB, 0)), lambda: heard(WEB, thing, begun(WEB, 1), 0, ("pour", 3)),
        lambda: heard(WEB, 1, begun(WEB, 1), thing, ("pour", 3)), lambda: heard(WEB, 1, begun(WEB, 1), 0, thing),
    ]
    return answers_of(calls)


def answers_of(calls):
    answers = []
    for call in calls:
        try:
            answers.append(call())
        except StreamError as error:
            answers.append((type(error), vars(error)))
    return answers


def later_answers(thing):
    """The same for what stands behind the houses: glasses, ends, records and links."""
    return answers_of([
        lambda: is_glass(WEB, thing), lambda: first_glass_of(WEB, thing), lambda: moves(WEB, thing),
        lambda: moved(WEB, thing, ("start", 0)), lambda: moved(WEB, STARTED, thing), lambda: broken(WEB, thing),
        lambda: run_out(WEB, thing), lambda: run_from(WEB, thing, ()), lambda: run_from(WEB, (1, 1), thing),
        lambda: stream_of(WEB, thing), lambda: Record(WEB, thing), lambda: Record(WEB, (thing,)),
        lambda: glass_then(RUN, thing), lambda: seen(RUN, thing), lambda: is_alike(RUN, thing),
        lambda: carried(RUN, thing, 1), lambda: carried(RUN, 1, thing), lambda: recorded(WEB, thing),
        lambda: Outgoing().known(thing), lambda: outgoing_of(thing).state(), lambda: Incoming().take(thing, (1,)),
        lambda: incoming_of(thing).state(), lambda: is_glass(WEB, (thing, ())),
        lambda: is_glass(WEB, (GLASS[0], thing)),
    ])


def written_disk():
    disk = Disk()
    disk.write((1, 2))
    return disk


def lasting_answers(thing):
    """The same for what lasts and what is written: rows, disks, posts and texts."""
    return answers_of([
        lambda: is_parcel(thing), lambda: row_of(thing), lambda: parcel_of(thing), lambda: mark(thing),
        lambda: sealed(thing), lambda: unsealed(thing), lambda: Disk().write(thing), lambda: written_disk().cut(thing),
        lambda: written_disk().cut((thing,)), lambda: written_disk().drop(thing), lambda: kept_parcels(thing),
        lambda: kept_parcels((thing,)), lambda: Post(WEB, thing).past(), lambda: Post(WEB, 1).deed(thing),
        lambda: Post(WEB, 1).deed(("hear", thing)), lambda: Post(WEB, 1).letter(thing),
        lambda: post_of(WEB, thing, PAST).past(), lambda: post_of(WEB, 1, thing).past(),
        lambda: post_of(WEB, 1, (PAST[0], thing, PAST[2])).past(),
        lambda: post_of(WEB, 1, (PAST[0], PAST[1], thing)).past(), lambda: read_web(thing), lambda: read_stream(thing),
        lambda: read_split(thing), lambda: read_moves(thing), lambda: read_record(thing),
    ])


def run_reel():
    return Reel(WEB, (("start", 0), ("take", 0, 1)), 1)


def led_net(thing):
    """What comes of a deed in a net in which something is on its way, and the glass behind it."""
    net = Net(WEB)
    led_by(net, [("start", 0), ("post", 0, 1)])
    return net.deed(thing), net.glass(), net.bag()


def last_answers(thing):
    """The same for saved houses, nets, films and desks."""
    desk = Desk()
    desk.tell("web a houses 3 0 2|tie 0 1 3 0|tie 1 2 2 0|")
    return answers_of([
        lambda: SavedHouse(WEB, thing, Disk()).past(), lambda: SavedHouse(WEB, 1, thing).past(),
        lambda: SavedHouse(WEB, 0, Disk()).deed(thing), lambda: SavedHouse(WEB, 0, Disk()).deed(("hear", thing)),
        lambda: SavedHouse(WEB, 1, Disk()).letter(thing), lambda: SavedHouse(WEB, 1, Disk()).moved(thing).past(),
        lambda: Net(WEB).house(thing).past(), lambda: Net(WEB).disk(thing).blocks(), lambda: led_net(thing),
        lambda: led_net(("start", thing)), lambda: led_net(("keep", thing)), lambda: led_net(("post", thing, 1)),
        lambda: led_net(("post", 1, thing)), lambda: led_net(("bring", thing)), lambda: led_net(("lose", thing)),
        lambda: led_net(("double", thing)), lambda: led_net(("spoil", thing, 0, 0)),
        lambda: led_net(("spoil", 0, thing, 0)), lambda: led_net(("spoil", 0, 0, thing)),
        lambda: led_net(("send", thing, (1,))), lambda: led_net(("send", 1, thing)),
        lambda: led_net(("cut", thing, ())), lambda: led_net(("cut", 1, thing)), lambda: led_by(Net(WEB), thing),
        lambda: led_by(Net(WEB), [thing]), lambda: settle(Net(WEB), thing), lambda: Reel(WEB, thing, 1).kept(),
        lambda: Reel(WEB, (thing,), 1).kept(), lambda: Reel(WEB, (), thing).kept(), lambda: run_reel().seek(thing),
        lambda: drawn(WEB, thing), lambda: drawn_heights(WEB, thing), lambda: drawn_stream(WEB, thing),
        lambda: desk.tell(thing),
    ])


def only_plain(thing):
    """Whether a thing is an integer, a string, None, or a tuple of such."""
    if type(thing) is tuple:
        return all(only_plain(item) for item in thing)
    return thing is None or type(thing) in (int, str)


class Arguments(unittest.TestCase):
    def test_no_other_error_whatever_is_passed(self):
        for thing in odd_things() + [(0, 1), (2, 2), ("pour", 3), 1, GLASS, ("take", 0, 1), RUN, (0, ())]:
            with self.subTest(repr(thing)[:60]):
                self.assertEqual(len(all_answers(thing)), 28)
                self.assertEqual(len(later_answers(thing)), 24)
                self.assertEqual(len(lasting_answers(thing)), 25)
                self.assertEqual(len(last_answers(thing)), 34)

    def test_nothing_passed_is_changed(self):
        def lists():
            return [[], [0, 1], [[0, 1, 3, 0]], {0: [1]}, {"pour": 3}, ["pour", 3], [[0, 1, 2], 2],
                    ([0, 1, 2], 2), ((0, 1, 2), [2]), ([2], 2), nested(40, list), ("awake", 0, 0, [0, 0], [0], {}),
                    [GLASS[0], []], ([*GLASS[0]], ()),
                    [["start", 0]], (["take", 0, 1, ["yes"]],), ["take", 0, 1], [5, 1, 10 ** 19], (0, [(1,)]),
                    [0, [[1, [2]]]], (0, ((1, [2]),)), [1, 2, 3], [(1, 2), ()], ["hear", [1]], ("hear", [1]),
                    [PAST[0], [], []], (PAST[0], [(0, ())], PAST[2]), [("start", 0)], [("start", 0), ("keep", 1)],
                    ["keep", 1], [("start", 0), ["take", 0, 1]]]
        for thing, same in zip(lists(), lists()):
            all_answers(thing)
            later_answers(thing)
            lasting_answers(thing)
            last_answers(thing)
            self.assertEqual(thing, same)
            self.assertIs(type(thing), type(same))

    def test_equal_calls_give_equal_answers(self):
        for thing in ((), (0,), (0, 1), (2, 2), 1, ("pour", 3), None, nested(40, tuple), GLASS, ("take", 0, 1),
                      (0, ()), ("a", 5), (6, 0), "stream 1\n", "houses 2 0 1\n", PAST, ("start",),
                      ("start", 0), [("start", 0), ("keep", 0)], ("keep", 2), "view a", "out a"):
            self.assertEqual(all_answers(thing), all_answers(thing))
            self.assertEqual(later_answers(thing), later_answers(thing))
            self.assertEqual(lasting_answers(thing), lasting_answers(thing))
            self.assertEqual(last_answers(thing), last_answers(thing))

    def test_a_web_does_not_change(self):
        all_answers((0, 1))
        later_answers((0, 1))
        lasting_answers((0, 1))
        last_answers((0, 1))
        started(WEB, 0, begun(WEB, 0))
        self.assertEqual((WEB.many, WEB.ties, WEB.spring, WEB.mouth), (3, ((0, 1, 3, 0), (1, 2, 2, 0)), 0, 2))
        self.assertEqual(WEB, Web(3, TIES, 0, 2))


class Results(unittest.TestCase):
    def test_are_of_the_listed_kinds(self):
        states = [begun(WEB, house) for house in range(3)]
        results = [neighbours(WEB, 1), lets(WEB, 0, 1), worth(WEB, (2, 2)), room(WEB, (2, 2), 0, 1), most(WEB),
                   side_worth(WEB, (0, 1)), side_of(WEB, (2, 2)), side_of(WEB, (0, 0)), split(WEB, (2, 2)), *states,
                   started(WEB, 0, states[0]), heard(WEB, 1, states[1], 0, ("pour", 3)),
                   heard(WEB, 2, states[2], 1, ("push", 2, 1)), GLASS, STARTED, first_glass_of(WEB, (2, 2)),
                   moves(WEB, STARTED), broken(WEB, STARTED), run_out(WEB, [1]), run_from(WEB, (1, 1), [3]),
                   stream_of(WEB, STARTED), bounds(WEB), RUN.events, first_wrong(RUN), glass_then(RUN, 3), causes(RUN),
                   vectors(RUN), longest_chain(RUN), seen(RUN, 1), carried(RUN, 0, 1), by_least(RUN).events,
                   first_wrong(Record(WEB, (("start", 1),))), row_of((None, "a")), mark((1,)), sealed(5), unsealed(()),
                   unsealed(sealed("a")), Post(WEB, 0).state(), PAST, Post(WEB, 0).letter(1),
                   Post(WEB, 0).deed(("start",)), Post(WEB, 0).deed(("hear", None)), web_text(WEB),
                   stream_text((1, 2)), split_text((((0, 1, 2), 2),)), moves_text([("start", 0)]), record_text(RUN),
                   read_stream("stream 1\n"), read_split("way 1 0\n"),
                   read_moves("start 0\n"), Disk().write(()), Disk().sync(), Disk().synced(), Disk().cut(()),
                   Disk().drop(0), SavedHouse(WEB, 0, Disk()).state(), SavedHouse(WEB, 0, Disk()).past(),
                   SavedHouse(WEB, 0, Disk()).letter(1), SavedHouse(WEB, 0, Disk()).deed(("start",)),
                   SavedHouse(WEB, 0, Disk()).keep(), Net(WEB).glass(), Net(WEB).deed(("start", 0)),
                   round_trip(Net(WEB)), settle(Net(WEB), 9), Reel(WEB, (), 1).stands(), Reel(WEB, (), 1).worked(),
                   Reel(WEB, (), 1).kept(),
                   Reel(WEB, (), 1).glass_there(), Reel(WEB, (), 1).seek(0), drawn(WEB, GLASS),
                   drawn_heights(WEB, GLASS), drawn_stream(WEB, (2, 2)), Desk().tell("web a houses 2 0 1|")]
        for result in results:
            self.assertTrue(only_plain(result), result)
        flags = [is_stream(WEB, (2, 2)), is_stream(WEB, 0), is_paper(WEB, (2, 2), (0, 1)), is_paper(WEB, (0, 0), ()),
                 is_split(WEB, (2, 2), (((0, 1, 2), 2),)), is_split(WEB, (2, 2), ()), is_word(("yes",)), is_word(()),
                 is_glass(WEB, GLASS), is_glass(WEB, ()), is_glass(WEB, (GLASS[0], [])), is_alike(RUN, RUN),
                 is_alike(RUN, Record(WEB, ())), is_alike(RUN, ()), is_word(("push", 1, 1)),
                 is_state(WEB, 0, states[0]), is_state(WEB, 0, states[1]), is_parcel(()), is_parcel(""), is_parcel([])]
        for flag in flags:
            self.assertIs(type(flag), bool)


class Kinds(unittest.TestCase):
    def test_integers_and_numbers(self):
        for thing in (0, 1, 10 ** 19):
            self.assertTrue(is_int(thing) and is_int(-thing) and is_number(thing))
        self.assertFalse(is_number(-1))
        for thing in (True, False, None, "1", b"1", (1,), [1]):
            self.assertFalse(is_int(thing) or is_number(thing) or is_number_below(5, thing))
        self.assertEqual([is_number_below(2, number) for number in (-1, 0, 1, 2)], [False, True, True, False])

    def test_lots(self):
        for thing in ((), (0,), (0, 1, 5)):
            self.assertTrue(is_lot(thing))
        for thing in ([], (1, 0), (0, 0), (-1, 0), (False, 1), (0, "1"), None, "01", ((0,),)):
            self.assertFalse(is_lot(thing))


if __name__ == "__main__":
    unittest.main()
