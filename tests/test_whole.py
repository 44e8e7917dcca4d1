"""The program as a whole: point 1, and the opening words of the interface."""

import importlib
import inspect
import unittest

from mailforwards import books, codec, counting, letters, live, notation, prolonging, watching
from mailforwards.books import Book
from mailforwards.errors import (AlreadyOpen, Contradiction, DecodeError, InvalidAddress,
                                 InvalidCount, InvalidDay, InvalidNumber, InvalidOperation,
                                 InvalidOrder, MailError, NotationError, NotHolding, UnknownLetter,
                                 UnknownOrder)
from mailforwards.live import LivePost
from mailforwards.watching import LetterObserver, WayObserver
from wrong import LAST_DAY, NOT_ADDRESSES, NOT_DAYS, NOT_NUMBERS, NOT_WAYS, raised

TWO = Book(("a", "b", 0, 9, 1), ("b", "a", 5, 12, 2))
NOT_INDEXES = NOT_NUMBERS + [-1, 2, 30, 10 ** 30]
NOT_COUNTS = NOT_NUMBERS + [-1, 1001, 10 ** 30]

# The functions and classes of each file; of a class also what stands in it: "=" before the name
# of a property, "@" before that of a class method.
INTERFACE = {
    "books": {"Book": ["*orders", {
        "@chain": ["first", "last", "way", "*addresses"], "=orders": [], "=addresses": [],
        "__len__": [], "__getitem__": 1, "__contains__": 1, "__add__": 1, "__rshift__": 1,
        "__eq__": 1, "without": ["*indexes"], "order_at": ["address", "day"]}]},
    "letters": {"end": ["book", "address", "day"], "times_sent": ["book", "address", "day"],
                "route": ["book", "address", "day", "count"], "meeting": ["book", "one", "other"]},
    "counting": {"end_counts": ["book", "address", "first", "last"],
                 "sent_by": ["book", "address", "first", "last"],
                 "first_day_for": ["book", "address", "goal"],
                 "last_day_for": ["book", "address", "goal"],
                 "first_unlike_day": ["book", "other", "address", "first"],
                 "is_needless": ["book", "index"], "needless_orders": ["book"]},
    "prolonging": {"prolonged": ["book", "index", "day"],
                   "orders_to_prolong": ["book", "address", "day", "goal"],
                   "day_if_prolonged": ["book", "address", "day", "goal"]},
    "live": {"LivePost": ["book", {
        "post": ["address"], "pass_days": ["count"], "give": ["order"], "stop": ["index"],
        "__call__": ["letter"], "__len__": [], "=today": [], "=present_book": [], "=resting": [],
        "=under_way": [], "=history": [], "undo": [], "redo": [], "apply": ["*operations"],
        "@replay": ["book", "operations"], "resting_after": ["*operations"], "__enter__": [],
        "__exit__": 3}]},
    "watching": {
        "WayObserver": ["book", "index", {
            "see_end": ["address", "day", "goal"], "=ways": [], "=observations": [],
            "telling_day": ["address", "limit"]}],
        "LetterObserver": ["book", "day", {
            "see_arrival": ["address", "day"], "see_none": ["address", "day"],
            "@from_log": ["book", "day", "*observations"], "=candidates": [],
            "=observations": [], "possible_ends": [], "__len__": [], "__contains__": 1}]},
    "notation": {"format_book": ["book"], "parse_book": ["text"],
                 "travel_list": ["book", "address", "day", "count"]},
    "codec": {"pack_bytes": ["values"], "unpack_bytes": ["data"], "encode_book": ["book"],
              "decode_book": ["data"]},
}

ADDRESS = (InvalidAddress, NOT_ADDRESSES)
DAY = (InvalidDay, NOT_DAYS)
COUNT = (InvalidNumber, NOT_COUNTS)
INDEX = (UnknownOrder, NOT_INDEXES)


def route(*arguments):
    return list(letters.route(*arguments))


# A call, right arguments behind the book, and for each of these the error and wrong values.
CHECKED = [
    (lambda *given: TWO.order_at(*given), ("a", 4), (ADDRESS, DAY)),
    (lambda *given: letters.end(TWO, *given), ("a", 4), (ADDRESS, DAY)),
    (lambda *given: letters.times_sent(TWO, *given), ("a", 4), (ADDRESS, DAY)),
    (lambda *given: route(TWO, *given), ("a", 4, 3), (ADDRESS, DAY, COUNT)),
    (lambda one, day, other, later: letters.meeting(TWO, (one, day), (other, later)),
     ("a", 4, "a", 7), (ADDRESS, DAY, ADDRESS, DAY)),
    (lambda *given: counting.end_counts(TWO, *given), ("a", 0, 9), (ADDRESS, DAY, DAY)),
    (lambda *given: counting.sent_by(TWO, *given), ("a", 0, 9), (ADDRESS, DAY, DAY)),
    (lambda *given: counting.first_day_for(TWO, *given), ("a", "b"), (ADDRESS, ADDRESS)),
    (lambda *given: counting.last_day_for(TWO, *given), ("a", "b"), (ADDRESS, ADDRESS)),
    (lambda *given: counting.first_unlike_day(TWO, Book(), *given), ("a", 0), (ADDRESS, DAY)),
    (lambda *given: counting.is_needless(TWO, *given), (0,), (INDEX,)),
    (lambda *given: prolonging.prolonged(TWO, *given), (0, 99), (INDEX, DAY)),
    (lambda *given: prolonging.orders_to_prolong(TWO, *given), ("a", 99, "b"),
     (ADDRESS, DAY, ADDRESS)),
    (lambda *given: prolonging.day_if_prolonged(TWO, *given), ("a", 99, "b"),
     (ADDRESS, DAY, ADDRESS)),
    (lambda *given: LivePost(TWO).post(*given), ("a",), (ADDRESS,)),
    (lambda *given: LivePost(TWO).pass_days(*given), (3,), (COUNT,)),
    (lambda *given: WayObserver(TWO, *given).ways, (0,), (INDEX,)),
    (lambda *given: WayObserver(TWO, 0).see_end(*given), ("a", 9, "b"), (ADDRESS, DAY, ADDRESS)),
    (lambda *given: WayObserver(TWO, 0).telling_day(*given), ("a", 20), (ADDRESS, COUNT)),
    (lambda *given: LetterObserver(TWO, *given).candidates, (4,), (DAY,)),
    (lambda *given: LetterObserver(TWO, 4).see_arrival(*given), ("a", 7), (ADDRESS, DAY)),
    (lambda *given: LetterObserver(TWO, 4).see_none(*given), ("a", 7), (ADDRESS, DAY)),
    (lambda day, *seen: LetterObserver.from_log(TWO, day, ("see_none", *seen)).candidates,
     (4, "a", 7), (DAY, ADDRESS, DAY)),
    (lambda *given: notation.travel_list(TWO, *given), ("a", 4, 3), (ADDRESS, DAY, COUNT)),
]

# A list or a dict that a call gives.
RETURNED = [
    lambda: counting.end_counts(TWO, "a", 0, 9),
    lambda: counting.sent_by(TWO, "a", 9, 20),
    lambda: counting.needless_orders(Book(("a", "b", 5, 5, 1), ("b", "a", 6, 6, 1))),
    lambda: prolonging.orders_to_prolong(TWO, "b", 99, "a"),
    lambda: LIVE.resting, lambda: LIVE.under_way, lambda: LIVE.history,
    lambda: LIVE.resting_after(("pass_days", 3)),
    lambda: WAYS.ways, lambda: WAYS.observations,
    lambda: LETTERS.candidates, lambda: LETTERS.observations, lambda: LETTERS.possible_ends(),
    lambda: codec.unpack_bytes(b"\x01\xff"),
]
LIVE = LivePost.replay(TWO, [("post", "a"), ("post", "b"), ("pass_days", 0)])
WAYS = WayObserver(TWO, 0)
WAYS.see_end("a", 9, "b")
LETTERS = LetterObserver.from_log(TWO, 4, ("see_none", "zz", 4))

# Each error with its attributes, and a call that raises it.
RAISED = [
    (InvalidOrder, {"index": 1}, lambda: Book(*TWO.orders[:1], None)),
    (InvalidOrder, {"index": 0}, lambda: Book.chain(0, 5, 31, "a", "b")),
    (InvalidOrder, {"index": 2}, lambda: TWO + TWO),
    (InvalidOrder, {"index": 0}, lambda: TWO >> -1),
    (InvalidOrder, {"index": 2}, lambda: LivePost(TWO).give(True)),
    (InvalidOrder, {"index": 1}, lambda: notation.parse_book("order a b 0 9 1\norder a b 0 9 1")),
    (InvalidNumber, {}, lambda: TWO >> True),
    (UnknownOrder, {"index": 2}, lambda: TWO[2]),
    (UnknownOrder, {"index": True}, lambda: TWO.without(0, True, 7)),
    (UnknownOrder, {"index": -1}, lambda: LivePost(TWO).stop(-1)),
    (NotHolding, {"index": 0}, lambda: LivePost(TWO).stop(0)),
    (UnknownLetter, {"letter": False}, lambda: LIVE(False)),
    (InvalidOperation, {"index": 1}, lambda: LivePost(TWO).apply(("post", "a"), ("undo", 1))),
    (InvalidOperation, {"index": 0}, lambda: LivePost.replay(TWO, ["post"])),
    (InvalidOperation, {"index": 0}, lambda: LivePost(TWO).resting_after(None)),
    (Contradiction, {}, lambda: WAYS.see_end("c", 0, "a")),
    (Contradiction, {}, lambda: LETTERS.see_arrival("a", 5)),
    (Contradiction, {}, lambda: LetterObserver.from_log(Book(), 4, ("see_none", "a", 4))),
    (NotationError, {"row": 1, "word": 4}, lambda: notation.parse_book("order a b 0 9 1\norder b a 1")),
    (InvalidCount, {}, lambda: codec.pack_bytes([True])),
    (DecodeError, {"offset": 1}, lambda: codec.decode_book(b"M")),
]


def pairs_of_wrong(kinds):
    """Two places of arguments, and all wrong values of the first one with some of the other."""
    for at in range(len(kinds)):
        for later in range(at + 1, len(kinds)):
            for value in kinds[at][1]:
                for other in kinds[later][1][:4]:
                    yield at, value, later, other


class Interface(unittest.TestCase):

    def check_function(self, found, module, parameters, own):
        """Parameters by name, those behind * with it, or how many there are behind the own one."""
        self.assertEqual(found.__module__, module)
        told = list(inspect.signature(found).parameters.values())[own:]
        if isinstance(parameters, int):
            self.assertIn(len(told), (parameters, 1))
            return
        names = ["*" * (parameter.kind is parameter.VAR_POSITIONAL) + parameter.name
                 for parameter in told]
        self.assertEqual(names, parameters)

    def check_class(self, found, module, parameters, parts):
        self.check_function(vars(found)["__init__"], module, parameters, 1)
        for name, words in parts.items():
            part = vars(found)[name.lstrip("=@")]
            self.assertEqual(isinstance(part, property), name.startswith("="), name)
            self.assertEqual(isinstance(part, classmethod), name.startswith("@"), name)
            if isinstance(part, property):
                part = part.fget
            self.check_function(getattr(part, "__func__", part), module, words, 1)

    def test_names_and_arguments_as_written(self):
        for name, parts in INTERFACE.items():
            module = f"mailforwards.{name}"
            for word, parameters in parts.items():
                with self.subTest(module=module, word=word):
                    found = vars(importlib.import_module(module))[word]
                    self.assertEqual(found.__module__, module)
                    if isinstance(found, type):
                        self.check_class(found, module, parameters[:-1], parameters[-1])
                    else:
                        self.check_function(found, module, parameters, 0)

    def test_class_value(self):
        self.assertEqual(Book.MAX_ORDERS, 30)

    def test_arguments_by_name(self):
        self.assertEqual(letters.end(book=TWO, address="a", day=3), ("b", 4))
        self.assertEqual(counting.end_counts(book=TWO, address="a", first=0, last=9), {"a": 6, "b": 4})
        self.assertEqual(WayObserver(book=TWO, index=0).see_end(address="a", day=9, goal="b"), 27)
        self.assertEqual(WayObserver(TWO, 0).telling_day(address="a", limit=20), 0)
        self.assertEqual(LetterObserver(book=TWO, day=4).see_none(address="b", day=4), 1)
        self.assertEqual(notation.parse_book(text=notation.format_book(book=TWO)), TWO)
        self.assertEqual(notation.travel_list(book=TWO, address="a", day=3, count=0), "")
        self.assertEqual(codec.decode_book(data=codec.encode_book(book=TWO)), TWO)
        self.assertEqual(codec.unpack_bytes(data=codec.pack_bytes(values=[7])), [7])


class Arguments(unittest.TestCase):

    def test_right_arguments(self):
        for at, (call, right, _) in enumerate(CHECKED):
            with self.subTest(at=at):
                self.assertEqual(call(*right), call(*right))

    def test_each_wrong_argument(self):
        for at, (call, right, kinds) in enumerate(CHECKED):
            for place, (error, values) in enumerate(kinds):
                for value in values:
                    with self.subTest(at=at, place=place, value=value):
                        given = (*right[:place], value, *right[place + 1:])
                        raised(self, error, call, *given)

    def test_from_left_to_right(self):
        for at, (call, right, kinds) in enumerate(CHECKED):
            for place, value, later, other in pairs_of_wrong(kinds):
                with self.subTest(at=at, place=place, value=value, later=later):
                    given = list(right)
                    given[place], given[later] = value, other
                    raised(self, kinds[place][0], call, *given)

    def test_true_and_false_are_not_numbers(self):
        for value in (True, False):
            # The orders are right with 1 and 0 in these places.
            for order in (("a", "b", value, 9, 1), ("a", "b", 0, value, 1), ("a", "b", 0, 9, value)):
                raised(self, InvalidOrder, Book, order)
                raised(self, InvalidOrder, LivePost(Book()).give, order)
            for way in NOT_WAYS:
                raised(self, InvalidOrder, Book.chain, 0, 9, way, "a", "b")
            self.assertEqual(raised(self, UnknownOrder, lambda: TWO[value]).index, value)
            raised(self, UnknownOrder, TWO.without, value)
            raised(self, UnknownOrder, LivePost(TWO).stop, value)
            raised(self, UnknownLetter, LIVE, value)
            raised(self, InvalidNumber, lambda: TWO >> value)
            raised(self, InvalidCount, codec.pack_bytes, [value])

    def test_each_error_with_its_attributes(self):
        for error, attributes, call in RAISED:
            with self.subTest(error=error):
                for _ in range(2):
                    found = raised(self, error, call)
                    self.assertEqual(vars(found), attributes)
                    self.assertEqual([type(value) for value in vars(found).values()],
                                     [type(value) for value in attributes.values()])
                    self.assertIsInstance(found, MailError)
                    self.assertIsInstance(found, ValueError)

    def test_a_block_within_a_block(self):
        live_post = LivePost(TWO)
        with live_post:
            raised(self, AlreadyOpen, live_post.__enter__)
            raised(self, AlreadyOpen, live_post.resting_after)

    def test_a_generator_checks_its_arguments_at_its_first_value(self):
        for given, error in ((("A", -1, -1), InvalidAddress), (("a", -1, -1), InvalidDay),
                             (("a", 0, 1001), InvalidNumber)):
            found = letters.route(TWO, *given)
            raised(self, error, next, found)


class Values(unittest.TestCase):

    def state(self):
        """All that can be read of the book and of the objects above."""
        return (TWO.orders, TWO.addresses, len(TWO), LIVE.today, LIVE.present_book.orders,
                LIVE.resting, LIVE.under_way, LIVE.history, WAYS.ways, WAYS.observations,
                LETTERS.candidates, LETTERS.observations, LETTERS.possible_ends())

    def test_returned_lists_and_dicts_may_be_modified(self):
        before = self.state()
        for at, call in enumerate(RETURNED):
            with self.subTest(at=at):
                found = call()
                self.assertTrue(found)
                kept = type(found)(found)
                if isinstance(found, dict):
                    found["zz"] = 99
                    del found[min(found)]
                else:
                    found.append(99)
                    del found[0]
                self.assertEqual(call(), kept)
                self.assertEqual(type(call()), type(kept))
                self.assertEqual(self.state(), before)

    def test_calls_that_raise_an_error_change_no_state(self):
        before = self.state()
        for error, _, call in RAISED:
            raised(self, error, call)
            self.assertEqual(self.state(), before)
        calls = [(LIVE.post, "A"), (LIVE.pass_days, 401), (LIVE.give, ("a", "b", 0, 1, 1)),
                 (LIVE.stop, 0), (LIVE.apply, ("post", "a"), ("stop", 0)), (LIVE.apply, None),
                 (LIVE.resting_after, ("post", "A")), (WAYS.see_end, "A", 0, "a"),
                 (WAYS.see_end, "a", -1, "a"), (WAYS.see_end, "a", 0, "A"),
                 (WAYS.see_end, "c", 0, "a"), (WAYS.telling_day, "a", 501),
                 (LETTERS.see_arrival, "a", -1), (LETTERS.see_none, "A", 4),
                 (LETTERS.see_arrival, "a", 5), (LETTERS.see_arrival, "c", LAST_DAY)]
        for call, *given in calls:
            with self.subTest(given=given):
                with self.assertRaises(MailError):
                    call(*given)
                self.assertEqual(self.state(), before)

    def test_no_argument_is_changed_or_kept(self):
        for at, (call, right, kinds) in enumerate(CHECKED):
            for place in range(len(kinds)):
                wrong = [["a", 1]]
                given = (*right[:place], wrong, *right[place + 1:])
                with self.subTest(at=at, place=place):
                    raised(self, kinds[place][0], call, *given)
                    self.assertEqual(wrong, [["a", 1]])
        operations = [("post", "a"), ("pass_days", 1)]
        live_post = LivePost.replay(TWO, operations)
        operations.clear()
        self.assertEqual(live_post.history, [("post", "a"), ("pass_days", 1)])
        self.assertEqual(TWO.orders, (("a", "b", 0, 9, 1), ("b", "a", 5, 12, 2)))

    def test_generators_yield_equal_values(self):
        expected = [("a", 4), ("b", 5), ("a", 7)]
        first, other = letters.route(TWO, "a", 4, 3), letters.route(TWO, "a", 4, 3)
        self.assertEqual([next(first), next(other), list(first), list(other)],
                         [expected[0], expected[0], expected[1:], expected[1:]])

    def test_modules_of_the_interface(self):
        modules = [books, codec, counting, letters, live, notation, prolonging, watching]
        self.assertEqual(sorted(INTERFACE), [module.__name__.split(".")[1] for module in modules])


if __name__ == "__main__":
    unittest.main()
