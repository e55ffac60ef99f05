"""[6.1]: the two ends of links, what they tell, and that what is taken is what was put."""
import unittest

from moststream.errors import NoNumber, NoState
from moststream.links import Incoming, Outgoing, incoming_of, outgoing_of
from tests.drawn import Draw, nested, odd_things

A, B, C, D = ("push", 2, 1), (), (None, True, -3, ("x", (False,))), ("yes",)
THINGS = (A, B, C, D, (0,), ((),), ("a" * 20000,), (10 ** 19, -10 ** 19), nested(40, tuple), (0,) * 19000)
# Tuples with something within that is no integer, flag, string, None or such a tuple.
NO_THINGS = ([], [1], {}, "yes", 0, None, True, b"", b"yes", ([],), (1, [2]), ({},), (b"x",), ((1, (b"",)),),
             (Outgoing(),), (Incoming(),), Outgoing(), Incoming(), NoState(), (object(),), (range(2),), (int,))


def put_all(*things):
    end = Outgoing()
    for thing in things:
        end.put(thing)
    return end


def heard_all(*pairs):
    end = Incoming()
    for number, thing in pairs:
        end.take(number, thing)
    return end


class Puts(unittest.TestCase):
    def test_empty(self):
        end = Outgoing()
        self.assertEqual((end.waiting(), end.many_put(), end.state()), ([], 0, (0, ())))

    def test_numbers_from_0_on(self):
        end = Outgoing()
        self.assertEqual([end.put(thing) for thing in THINGS], list(range(10)))
        self.assertEqual(end.many_put(), 10)
        self.assertEqual(end.waiting(), list(enumerate(THINGS)))
        self.assertEqual(end.state(), (0, THINGS))

    def test_the_same_thing_twice_counts_twice(self):
        end = put_all(A, A, A)
        self.assertEqual(end.waiting(), [(0, A), (1, A), (2, A)])

    def test_known(self):
        end = put_all(A, B, C, D)
        self.assertEqual(end.known(0), 0)
        self.assertEqual(end.state(), (0, (A, B, C, D)))
        self.assertEqual(end.known(1), 1)
        self.assertEqual(end.waiting(), [(1, B), (2, C), (3, D)])
        self.assertEqual(end.known(3), 2)
        self.assertEqual((end.waiting(), end.many_put(), end.state()), ([(3, D)], 4, (3, (D,))))

    def test_a_lesser_one_changes_nothing(self):
        end = put_all(A, B, C)
        self.assertEqual(end.known(2), 2)
        for number in (2, 1, 0):
            self.assertEqual(end.known(number), 0)
            self.assertEqual(end.state(), (2, (C,)))

    def test_up_to_how_many_were_put(self):
        end = put_all(A, B)
        self.assertRaises(NoNumber, end.known, 3)
        self.assertEqual(end.known(2), 2)
        self.assertEqual((end.waiting(), end.many_put(), end.state()), ([], 2, (2, ())))
        self.assertRaises(NoNumber, end.known, 3)
        self.assertEqual(end.put(C), 2)
        self.assertEqual(end.state(), (2, (C,)))
        self.assertEqual(end.known(3), 1)
        self.assertRaises(NoNumber, Outgoing().known, 1)
        self.assertEqual(Outgoing().known(0), 0)

    def test_no_number(self):
        for thing in [-1, 4, 10 ** 19, True, False, None, "1", (1,), [1], {1: 1}, b"\x01", *odd_things()]:
            with self.subTest(repr(thing)[:60]):
                end = put_all(A, B, C)
                end.known(1)
                self.assertRaises(NoNumber, end.known, thing)
                self.assertEqual((end.state(), end.many_put()), ((1, (B, C)), 3))

    def test_lists_that_are_returned_are_new(self):
        end = put_all(A, B)
        first = end.waiting()
        first.append((2, C))
        first[0] = None
        self.assertEqual(end.waiting(), [(0, A), (1, B)])
        self.assertEqual(end.many_put(), 2)

    def test_copies_go_on_apart(self):
        end = put_all(A, B)
        end.known(1)
        other = end.copy()
        self.assertIs(type(other), Outgoing)
        self.assertEqual(other.state(), end.state())
        other.put(C)
        self.assertEqual((end.state(), other.state()), ((1, (B,)), (1, (B, C))))
        end.known(2)
        self.assertEqual((end.state(), other.state()), ((2, ()), (1, (B, C))))
        self.assertEqual(other.copy().copy().waiting(), [(1, B), (2, C)])

    def test_an_end_is_equal_to_nothing_of_another_kind(self):
        for thing in odd_things() + [(0, ()), Incoming()]:
            self.assertNotEqual(Outgoing(), thing)
            if not isinstance(thing, Incoming):
                self.assertNotEqual(Incoming(), thing)


class OutgoingOf(unittest.TestCase):
    def test_goes_on_from_a_state(self):
        end = outgoing_of((5, (A, B)))
        self.assertIs(type(end), Outgoing)
        self.assertEqual((end.many_put(), end.waiting(), end.state()), (7, [(5, A), (6, B)], (5, (A, B))))
        self.assertEqual(end.put(C), 7)
        self.assertEqual(end.known(4), 0)
        self.assertEqual(end.known(6), 1)
        self.assertRaises(NoNumber, end.known, 9)
        self.assertEqual(end.state(), (6, (B, C)))

    def test_each_state_is_told_again(self):
        for state in ((0, ()), (3, THINGS), (2 ** 32 - 1, ()), (2 ** 31 - 9, (D,) * 8), (1, (A,) * 1500)):
            self.assertEqual(outgoing_of(state).state(), state)

    def test_bounds_of_numbers(self):
        self.assertEqual(outgoing_of((2 ** 32 - 1, ())).many_put(), 2 ** 32 - 1)
        self.assertEqual(outgoing_of((2 ** 32 - 1, (A, B))).state(), (2 ** 32 - 1, (A, B)))
        for number in (2 ** 32, 2 ** 32 + 1, 10 ** 19, -1, True, False, None, "0", (0,)):
            with self.subTest(number):
                self.assertRaises(NoState, outgoing_of, (number, ()))

    def test_no_state(self):
        for thing in [(), (0,), (0, (), ()), [0, ()], (0, []), (0, [A]), (0, None), (0, ("push",)), (0, (0,)),
                      (0, A), ((0, ()),), {0: ()}, ((), 0), *odd_things()]:
            with self.subTest(repr(thing)[:60]):
                self.assertRaises(NoState, outgoing_of, thing)
                if not isinstance(thing, tuple) or thing in ((0,), (0, A)):
                    self.assertRaises(NoState, outgoing_of, (0, thing))

    def test_what_is_no_thing(self):
        for thing in NO_THINGS:
            with self.subTest(repr(thing)):
                self.assertRaises(NoState, outgoing_of, (0, (thing,)))
                self.assertRaises(NoState, outgoing_of, (0, (A, B, thing)))

    def test_a_state_is_of_one_end_alone(self):
        state = (1, (A,))
        one, other = outgoing_of(state), outgoing_of(state)
        one.put(B)
        self.assertEqual((state, other.state()), ((1, (A,)), state))


class Takes(unittest.TestCase):
    def test_empty(self):
        end = Incoming()
        self.assertEqual((end.taken(), end.held(), end.state()), (0, (), (0, ())))

    def test_in_order(self):
        end = Incoming()
        self.assertEqual([end.take(number, thing) for number, thing in enumerate(THINGS)],
                         [[thing] for thing in THINGS])
        self.assertEqual((end.taken(), end.held(), end.state()), (10, (), (10, ())))

    def test_ahead_of_a_gap(self):
        end = Incoming()
        self.assertEqual(end.take(2, C), [])
        self.assertEqual(end.take(1, B), [])
        self.assertEqual(end.take(4, A), [])
        self.assertEqual((end.taken(), end.held()), (0, (1, 2, 4)))
        self.assertEqual(end.state(), (0, ((1, B), (2, C), (4, A))))
        self.assertEqual(end.take(0, A), [A, B, C])
        self.assertEqual((end.taken(), end.held(), end.state()), (3, (4,), (3, ((4, A),))))
        self.assertEqual(end.take(3, D), [D, A])
        self.assertEqual(end.state(), (5, ()))

    def test_what_comes_again_is_not_heard(self):
        end = heard_all((0, A), (2, C))
        for thing in (A, B):
            self.assertEqual(end.take(0, thing), [])
            self.assertEqual(end.take(2, thing), [])
        self.assertEqual(end.state(), (1, ((2, C),)))
        self.assertEqual(end.take(1, B), [B, C])
        self.assertEqual(end.take(2, D), [])
        self.assertEqual(end.state(), (3, ()))

    def test_held_below_taken_and_1000(self):
        end = Incoming()
        self.assertEqual(end.take(1000, A), [])
        self.assertEqual(end.held(), ())
        self.assertEqual(end.take(999, A), [])
        self.assertEqual(end.held(), (999,))
        self.assertEqual(end.take(0, B), [B])
        self.assertEqual(end.take(1001, C), [])
        self.assertEqual(end.take(1000, D), [])
        self.assertEqual(end.state(), (1, ((999, A), (1000, D))))

    def test_a_thousand_at_once(self):
        end = Incoming()
        for number in range(999, 0, -1):
            self.assertEqual(end.take(number, (number,)), [])
        self.assertEqual(end.held(), tuple(range(1, 1000)))
        self.assertEqual(end.take(0, (0,)), [(number,) for number in range(1000)])
        self.assertEqual(end.state(), (1000, ()))

    def test_numbers_below_2_to_the_32(self):
        end = heard_all((0, A), (3, D))
        for thing in [2 ** 32, 2 ** 32 + 1, 10 ** 19, -1, True, False, None, "0", (0,), [0], b"\x00", {0: 0},
                      *odd_things()]:
            with self.subTest(repr(thing)[:60]):
                self.assertRaises(NoNumber, end.take, thing, B)
                self.assertEqual(end.state(), (1, ((3, D),)))
        self.assertEqual(end.take(2 ** 32 - 1, B), [])
        self.assertEqual(end.state(), (1, ((3, D),)))

    def test_lists_that_are_returned_are_new(self):
        end = Incoming()
        found = end.take(0, A)
        found.append(B)
        self.assertEqual(end.take(1, B), [B])
        self.assertEqual(end.take(1, B), [])
        nothing = end.take(5, C)
        nothing.append(D)
        self.assertEqual(end.take(6, D), [])
        self.assertEqual(end.state(), (2, ((5, C), (6, D))))

    def test_copies_go_on_apart(self):
        end = heard_all((0, A), (2, C))
        other = end.copy()
        self.assertIs(type(other), Incoming)
        self.assertEqual(other.state(), end.state())
        self.assertEqual(other.take(1, B), [B, C])
        self.assertEqual((end.state(), other.state()), ((1, ((2, C),)), (3, ())))
        end.take(5, D)
        self.assertEqual((end.held(), other.held()), ((2, 5), ()))


class IncomingOf(unittest.TestCase):
    def test_goes_on_from_a_state(self):
        end = incoming_of((5, ((7, A), (8, B))))
        self.assertIs(type(end), Incoming)
        self.assertEqual((end.taken(), end.held(), end.state()), (5, (7, 8), (5, ((7, A), (8, B)))))
        self.assertEqual(end.take(5, C), [C])
        self.assertEqual(end.take(7, D), [])
        self.assertEqual(end.take(6, D), [D, A, B])
        self.assertEqual(end.state(), (9, ()))

    def test_each_state_is_told_again(self):
        for state in ((0, ()), (0, ((1, A), (999, B))), (2 ** 32 - 1, ()), (3, tuple(enumerate(THINGS, 4))),
                      (9, tuple((number, B) for number in range(10, 1009)))):
            self.assertEqual(incoming_of(state).state(), state)

    def test_numbers_held_are_above_taken_and_below_taken_and_1000(self):
        for taken in (0, 1, 77):
            for number, due in ((taken + 1, True), (taken + 999, True), (taken, False), (taken + 1000, False),
                                (taken - 1, False), (taken + 10 ** 9, False)):
                if due:
                    self.assertEqual(incoming_of((taken, ((number, A),))).held(), (number,))
                else:
                    self.assertRaises(NoState, incoming_of, (taken, ((number, A),)))
                    self.assertRaises(NoState, incoming_of, (taken, ((taken + 1, A), (number, A))))

    def test_numbers_rise(self):
        self.assertEqual(incoming_of((0, ((1, A), (2, A), (9, A)))).held(), (1, 2, 9))
        for numbers in ((2, 1), (1, 1), (1, 3, 2), (5, 9, 9)):
            self.assertRaises(NoState, incoming_of, (0, tuple((number, A) for number in numbers)))

    def test_bounds_of_numbers(self):
        self.assertEqual(incoming_of((2 ** 32 - 1, ())).taken(), 2 ** 32 - 1)
        # By form alone: numbers held are judged by how many are taken.
        self.assertEqual(incoming_of((2 ** 32 - 1, ((2 ** 32 + 5, A),))).held(), (2 ** 32 + 5,))
        for number in (2 ** 32, 10 ** 19, -1, True, False, None, "0", (0,)):
            with self.subTest(number):
                self.assertRaises(NoState, incoming_of, (number, ()))

    def test_no_state(self):
        for thing in [(), (0,), (0, (), ()), [0, ()], (0, []), (0, [(1, A)]), (0, None), (0, (1, A)), (0, ((1,),)),
                      (0, ((1, A, A),)), (0, ([1, A],)), (0, ((True, A),)), (0, (("1", A),)), (0, ((None, A),)),
                      (0, ((1, A), None)), (0, ({1: A},)), {0: ()}, *odd_things()]:
            with self.subTest(repr(thing)[:60]):
                self.assertRaises(NoState, incoming_of, thing)
                self.assertRaises(NoState, incoming_of, (0, ((thing, A),)))
                self.assertRaises(NoState, incoming_of, (0, (thing,)))
                if thing != ():
                    self.assertRaises(NoState, incoming_of, (0, thing))

    def test_what_is_no_thing(self):
        for thing in NO_THINGS:
            with self.subTest(repr(thing)):
                self.assertRaises(NoState, incoming_of, (0, ((1, thing),)))
                self.assertRaises(NoState, incoming_of, (0, ((1, A), (3, thing))))

    def test_things_of_all_forms(self):
        for thing in (*THINGS, nested(39, lambda inner: (*inner, "x", None, True))):
            self.assertEqual(incoming_of((0, ((1, thing),))).state(), (0, ((1, thing),)))
            self.assertEqual(outgoing_of((0, (thing,))).state(), (0, (thing,)))


class PlainEnd:
    """What [6.1] says of the end that takes, kept as the list of all that was heard."""

    def __init__(self):
        self.first = {}
        self.told = 0

    def take(self, number, thing):
        if number < self.told or number >= self.told + 1000 or number in self.first:
            return []
        self.first[number] = thing
        ahead = self.told
        while self.told in self.first:
            self.told += 1
        return [self.first[k] for k in range(ahead, self.told)]

    def state(self):
        return (self.told, tuple((k, self.first[k]) for k in sorted(self.first) if k > self.told))


class Deeds(unittest.TestCase):
    def test_incoming_in_drawn_order(self):
        for seed in range(60):
            draw = Draw(seed)
            end, plain = Incoming(), PlainEnd()
            reach = draw.one_of((3, 20, 1100))
            for _ in range(300):
                number = draw.among(max(plain.told - 3, 0), plain.told + reach - draw.below(reach))
                thing = (draw.below(9), ("x",) * draw.below(3))
                self.assertEqual(end.take(number, thing), plain.take(number, thing))
                self.assertEqual(end.state(), plain.state())
                self.assertEqual((end.taken(), end.held()), (plain.told, tuple(k for k, _ in plain.state()[1])))
                if draw.below(9) == 0:
                    end = draw.one_of((end.copy, lambda: incoming_of(end.state())))()

    def test_outgoing_in_drawn_order(self):
        for seed in range(60):
            draw = Draw(seed)
            end, put, known = Outgoing(), [], 0
            for _ in range(200):
                if draw.below(3):
                    thing = (draw.below(9),)
                    put.append(thing)
                    self.assertEqual(end.put(thing), len(put) - 1)
                else:
                    number = draw.below(len(put) + 3)
                    if number > len(put):
                        self.assertRaises(NoNumber, end.known, number)
                    else:
                        self.assertEqual(end.known(number), max(number - known, 0))
                        known = max(known, number)
                self.assertEqual(end.waiting(), list(enumerate(put))[known:])
                self.assertEqual((end.many_put(), end.state()), (len(put), (known, tuple(put[known:]))))
                if draw.below(9) == 0:
                    end = draw.one_of((end.copy, lambda: outgoing_of(end.state())))()

    def test_the_fact_of_links(self):
        for seed in range(60):
            draw = Draw(seed)
            out, into, put, got, bag = Outgoing(), Incoming(), [], [], []
            for _ in range(200):
                deed = draw.below(5)
                if deed == 0:
                    put.append((len(put), draw.below(2) == 0))
                    out.put(put[-1])
                elif deed == 1:
                    bag.extend(out.waiting())
                elif deed == 2 and bag:
                    got.extend(into.take(*bag[draw.below(len(bag))]))
                elif deed == 3 and bag:
                    got.extend(into.take(*bag.pop(draw.below(len(bag)))))
                elif deed == 4:
                    out.known(draw.among(0, into.taken()))
                self.assertEqual(got, put[:len(got)])
                self.assertEqual(into.taken(), len(got))
            # The first that waits is heard, and what is taken is known, again and again.
            out.known(into.taken())
            while out.waiting():
                got.extend(into.take(*out.waiting()[0]))
                out.known(into.taken())
            self.assertEqual(got, put)
            self.assertEqual((out.state(), into.state()), ((len(put), ()), (len(put), ())))


if __name__ == "__main__":
    unittest.main()
