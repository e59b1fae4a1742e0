"""Promises [50] to [54]: maps; and what [1], [2] and [3] ask of them."""

import unittest
from collections import Counter
from itertools import product

from helper import (EVERY_KIND, FAR, Asked, by_kind, by_number, by_size, by_tag, inserted, log, no_orders, numbers,
                    rising, same, scripted, tagged, told_in_turn)
from yourorder.errors import NoElement, NoPlace
from yourorder.maps import Map


def most(n):
    return 2 * log(n + 1) + 1


class PlainMap:
    """A list of pairs in order, looked through from end to end."""

    def __init__(self, order):
        self.order = order
        self.kept = []

    def place_of(self, key):
        places = [place for place, pair in enumerate(self.kept) if self.order(pair[0], key) == 0]
        return places[0] if places else None

    def rank(self, key):
        return sum(self.order(pair[0], key) < 0 for pair in self.kept)

    def put(self, key, held):
        place = self.place_of(key)
        if place is None:
            self.kept.insert(self.rank(key), (key, held))
            return True
        self.kept[place] = (self.kept[place][0], held)
        return False

    def drop(self, key):
        place = self.place_of(key)
        if place is None:
            return False
        self.kept.pop(place)
        return True

    def get(self, key):
        place = self.place_of(key)
        return "refused" if place is None else self.kept[place][1]

    def has(self, key):
        return self.place_of(key) is not None


def got(kept, key):
    try:
        return kept.get(key)
    except NoElement:
        return "refused"


def map_of(keys, order):
    told = Map(order)
    for key in keys:
        told.put(key, ("value of", key))
    return told


class ToldTest(unittest.TestCase):
    def test_at_first_none(self):
        empty = Map(scripted([]))
        self.assertEqual(empty.size(), 0)
        self.assertEqual(empty.pairs(), [])
        self.assertIs(empty.has(3), False)
        self.assertIs(empty.drop(3), False)
        self.assertEqual(empty.rank(3), 0)
        self.assertEqual(empty.copy().pairs(), [])
        self.assertEqual(got(empty, 3), "refused")
        self.assertEqual(empty.size(), 0)

    def test_put(self):
        kept = Map(by_number)
        self.assertIs(kept.put(5, "five"), True)
        self.assertIs(kept.put(2, "two"), True)
        self.assertIs(kept.put(9, None), True)
        self.assertIs(kept.put(5, "FIVE"), False)
        self.assertEqual(kept.pairs(), [(2, "two"), (5, "FIVE"), (9, None)])
        self.assertEqual(kept.size(), 3)

    def test_a_like_key_keeps_the_elder_key_and_the_new_value(self):
        kept = Map(by_size)
        self.assertIs(kept.put(25, "a"), True)
        self.assertIs(kept.put(21, "b"), False)
        self.assertIs(kept.put(29, "c"), False)
        self.assertIs(kept.put(30, "d"), True)
        self.assertEqual(kept.pairs(), [(25, "c"), (30, "d")])
        self.assertEqual(kept.get(20), "c")
        self.assertEqual(kept.at(0), (25, "c"))
        self.assertIs(kept.drop(28), True)
        self.assertIs(kept.put(21, "b"), True)
        self.assertEqual(kept.pairs(), [(21, "b"), (30, "d")])

    def test_the_key_that_is_put_again_is_the_elder_ones_object(self):
        kept = Map(by_tag)
        elder = (3, "elder")
        kept.put(elder, 1)
        kept.put((3, "younger"), 2)
        self.assertIs(kept.at(0)[0], elder)
        self.assertIs(kept.pairs()[0][0], elder)
        self.assertIs(kept.copy().at(0)[0], elder)

    def test_drop(self):
        kept = map_of([4, 1, 7], by_number)
        self.assertIs(kept.drop(2), False)
        self.assertEqual(kept.size(), 3)
        self.assertIs(kept.drop(4), True)
        self.assertEqual(kept.pairs(), [(1, ("value of", 1)), (7, ("value of", 7))])
        self.assertIs(kept.drop(4), False)
        self.assertIs(kept.has(4), False)
        self.assertEqual(got(kept, 4), "refused")
        self.assertIs(kept.drop(1), True)
        self.assertIs(kept.drop(7), True)
        self.assertEqual(kept.pairs(), [])

    def test_get_and_has(self):
        kept = map_of([4, 1, 7], by_number)
        for key in range(-1, 10):
            self.assertIs(kept.has(key), key in (1, 4, 7))
            self.assertEqual(got(kept, key), ("value of", key) if key in (1, 4, 7) else "refused")

    def test_at_and_rank(self):
        kept = map_of([4, 1, 7], by_number)
        self.assertEqual([kept.at(place) for place in range(3)], kept.pairs())
        self.assertEqual([kept.rank(key) for key in range(9)], [0, 0, 1, 1, 1, 2, 2, 2, 3])
        self.assertIs(type(kept.at(1)), tuple)
        self.assertIs(type(kept.pairs()), list)
        self.assertIs(type(kept.pairs()[1]), tuple)
        self.assertIs(type(kept.rank(4)), int)
        self.assertIs(type(kept.size()), int)


class RefusedTest(unittest.TestCase):
    def test_get_of_no_key(self):
        for n in (0, 1, 2, 5, 40, 300):
            kept = map_of(rising(n, 2), by_number)
            pairs = kept.pairs()
            for key in range(-1, 2 * n + 1, 2):
                with self.assertRaises(NoElement):
                    kept.get(key)
            self.assertEqual(kept.pairs(), pairs)

    def test_at_of_no_place(self):
        for n in (0, 1, 2, 5, 40, 300):
            order = Asked(by_number)
            kept = map_of(rising(n), order)
            pairs = kept.pairs()
            order.questions.clear()
            for place in (-1, -2, -n - 1, min(-n, -1), n, n + 1, 10 ** 30, -10 ** 30):
                with self.subTest(n=n, place=place), self.assertRaises(NoPlace):
                    kept.at(place)
            self.assertEqual(order.count(), 0)
            self.assertEqual(kept.pairs(), pairs)


class LongTurnsTest(unittest.TestCase):
    """A map against a plain list of pairs kept in order."""

    def check_all(self, kept, plain, keys):
        self.assertEqual(kept.pairs(), plain.kept)
        self.assertEqual(kept.size(), len(plain.kept))
        self.assertEqual([kept.at(place) for place in range(len(plain.kept))], plain.kept)
        for key in keys:
            self.assertIs(kept.has(key), plain.has(key))
            self.assertEqual(kept.rank(key), plain.rank(key))
            self.assertEqual(got(kept, key), plain.get(key))

    def turns(self, many, below, dropped, seed):
        kept = Map(by_tag)
        plain = PlainMap(by_tag)
        choices = numbers(many, 10, seed + 1)
        for turn, number in enumerate(numbers(many, below, seed)):
            key = (number, f"put {turn}")
            n = kept.size()
            if choices[turn] < dropped:
                self.assertIs(kept.drop(key), plain.drop(key))
            else:
                self.assertIs(kept.put(key, turn), plain.put(key, turn))
            self.check_all(kept, plain, [key] if turn % 25 else [(k, "key") for k in range(-1, below + 1, 3)])
            self.assertLessEqual(abs(kept.size() - n), 1)
        return kept, plain

    def test_few_keys(self):
        for dropped in (2, 5, 8):
            self.turns(500, 6, dropped, dropped)

    def test_many_keys(self):
        for dropped in (1, 4, 6):
            self.turns(400, 500, dropped, dropped)

    def test_filled_and_emptied(self):
        for keys in (rising(150), rising(150)[::-1], sorted(range(150), key=lambda number: number * 7919 % 1009)):
            kept = Map(by_number)
            plain = PlainMap(by_number)
            for key in keys:
                self.assertIs(kept.put(key, -key), plain.put(key, -key))
                self.assertEqual(kept.pairs(), plain.kept)
            for key in keys[::2] + keys[1::2]:
                self.assertIs(kept.drop(key), plain.drop(key))
                self.check_all(kept, plain, [key, key + 1, -1, 150])
            self.assertEqual(kept.pairs(), [])

    def test_every_small_map(self):
        for keys in product(range(4), repeat=5):
            kept = Map(by_tag)
            plain = PlainMap(by_tag)
            for turn, key in enumerate(keys):
                self.assertIs(kept.put((key, turn), turn), plain.put((key, turn), turn))
            self.check_all(kept, plain, [(key, "key") for key in range(-1, 5)])
            for key in range(-1, 5):
                without = kept.copy()
                self.assertIs(without.drop((key, "key")), key in keys)
                self.assertEqual(without.pairs(), [pair for pair in plain.kept if pair[0][0] != key])

    def test_pairs_stand_in_the_order_of_the_keys(self):
        keys = tagged(sorted(set(numbers(200, 900, 6)), key=lambda number: number * 7919 % 1009))
        self.assertEqual([key for key, _ in map_of(keys, by_tag).pairs()], inserted(keys, by_tag))


class EveryKindTest(unittest.TestCase):
    def test_keys_of_every_kind(self):
        kept = Map(by_kind)
        plain = PlainMap(by_kind)
        for turn, key in enumerate(EVERY_KIND):
            self.assertIs(kept.put(key, turn), plain.put(key, turn), key)
            self.assertTrue(same(kept.pairs(), plain.kept), key)
        for key in EVERY_KIND:
            self.assertEqual(kept.get(key), plain.get(key))
            self.assertEqual(kept.rank(key), plain.rank(key))
        for key in EVERY_KIND:
            self.assertIs(kept.drop(key), plain.drop(key), key)
            self.assertTrue(same(kept.pairs(), plain.kept), key)

    def test_values_of_every_kind(self):
        kept = Map(by_number)
        for held in EVERY_KIND:
            kept.put(1, "before")
            self.assertIs(kept.put(1, held), False)
            self.assertIs(kept.get(1), held)
            self.assertIs(kept.at(0)[1], held)
            self.assertIs(kept.has(1), True)
        for key, held in enumerate(EVERY_KIND):
            kept.put(key, held)
        self.assertTrue(same(kept.pairs(), list(enumerate(EVERY_KIND))))
        self.assertEqual(kept.size(), len(EVERY_KIND))

    def test_keys_and_values_of_many_digits(self):
        kept = Map(by_number)
        for key in (FAR, 0, -FAR):
            self.assertIs(kept.put(key, "before"), True)
            self.assertIs(kept.put(key, -key), False)
        self.assertTrue(kept.pairs() == [(-FAR, FAR), (0, 0), (FAR, -FAR)])
        self.assertTrue(kept.at(2) == (FAR, -FAR))
        self.assertTrue(kept.get(-FAR) == FAR)
        self.assertEqual([kept.rank(key) for key in (-FAR, FAR - 1, FAR, FAR + 1)], [0, 2, 2, 3])
        self.assertIs(kept.has(FAR + 1), False)
        self.assertIs(kept.drop(FAR + 1), False)
        self.assertIs(kept.drop(FAR), True)
        self.assertTrue(kept.copy().pairs() == [(-FAR, FAR), (0, 0)])

    def test_a_value_of_none_is_there(self):
        kept = Map(by_number)
        self.assertIs(kept.put(1, None), True)
        self.assertIs(kept.put(1, None), False)
        self.assertIsNone(kept.get(1))
        self.assertIs(kept.has(1), True)
        self.assertEqual(kept.pairs(), [(1, None)])
        self.assertIs(kept.drop(1), True)

    def test_the_key_none(self):
        kept = Map(by_kind)
        self.assertEqual(got(kept, None), "refused")
        self.assertIs(kept.put(None, 0), True)
        self.assertIs(kept.put(None, False), False)
        self.assertIs(kept.get(None), False)
        self.assertIs(kept.drop(None), True)
        self.assertIs(kept.has(None), False)


class OwnTest(unittest.TestCase):
    """What is told is the asker's own; maps that were copied change nothing of each other."""

    def test_pairs_are_the_askers_own(self):
        kept = map_of(rising(5), by_number)
        told = kept.pairs()
        wanted = list(told)
        told[0] = "changed"
        told.append("more")
        self.assertEqual(kept.pairs(), wanted)
        kept.pairs().clear()
        self.assertEqual(kept.pairs(), wanted)
        self.assertEqual(kept.size(), 5)
        self.assertEqual(kept.at(0), wanted[0])
        self.assertIs(kept.has(0), True)

    def test_pairs_told_earlier_stay(self):
        kept = map_of(rising(5), by_number)
        told = kept.pairs()
        wanted = list(told)
        kept.put(2, "new")
        kept.put(9, "nine")
        kept.drop(0)
        self.assertEqual(told, wanted)

    def test_two_maps_share_nothing(self):
        one = Map(by_number)
        other = Map(by_number)
        one.put(1, "one")
        self.assertEqual(other.pairs(), [])

    def test_copies(self):
        for changed in range(3):
            first = map_of([3, 1, 5], by_number)
            second = first.copy()
            maps = [first, second, second.copy()]
            wanted = first.pairs()
            for kept in maps:
                self.assertEqual(kept.pairs(), wanted)
            maps[changed].put(3, "new")
            maps[changed].put(4, "four")
            maps[changed].drop(1)
            for number, kept in enumerate(maps):
                if number == changed:
                    self.assertEqual(kept.pairs(), [(3, "new"), (4, "four"), (5, ("value of", 5))])
                else:
                    self.assertEqual(kept.pairs(), wanted)
                    self.assertEqual(kept.get(3), ("value of", 3))
                    self.assertIs(kept.has(1), True)
                    self.assertIs(kept.has(4), False)

    def test_a_copy_is_a_map_by_the_same_function(self):
        first = map_of([25, 11], by_size)
        second = first.copy()
        self.assertIsInstance(second, Map)
        self.assertIsNot(second, first)
        self.assertIs(second.put(29, "like"), False)
        self.assertIs(second.put(5, "ahead"), True)
        self.assertEqual(second.pairs(), [(5, "ahead"), (11, ("value of", 11)), (25, "like")])

    def test_copies_over_long_turns(self):
        maps = [(Map(by_tag), PlainMap(by_tag))]
        choices = numbers(600, 1000, 3)
        for turn, number in enumerate(numbers(600, 30, 4)):
            kept, plain = maps[choices[turn] % len(maps)]
            if turn % 60 == 59:
                other = PlainMap(by_tag)
                other.kept = list(plain.kept)
                maps.append((kept.copy(), other))
            elif choices[turn] % 3:
                self.assertIs(kept.put((number, turn), turn), plain.put((number, turn), turn))
            else:
                self.assertIs(kept.drop((number, turn)), plain.drop((number, turn)))
            for each, plain_one in maps:
                self.assertEqual(each.pairs(), plain_one.kept)


ASKING = {
    "put": lambda kept, key: kept.put(key, "held"),
    "drop": lambda kept, key: kept.drop(key),
    "get": got,
    "has": lambda kept, key: kept.has(key),
    "rank": lambda kept, key: kept.rank(key),
}


class QuestionsTest(unittest.TestCase):
    def check(self, kept, order, keys):
        """At most so many questions of each key, each of a key that is held and the one handed in."""
        n = kept.size()
        there = {id(key) for key, _ in kept.pairs()}
        for key in keys:
            for name, ask in ASKING.items():
                asked = kept.copy() if name in ("put", "drop") else kept
                order.questions.clear()
                ask(asked, key)
                self.assertLessEqual(order.count(), most(n), (name, n, key))
                for first, second in order.questions:
                    self.assertIn(id(first), there, (name, n, key))
                    self.assertIs(second, key, (name, n, key))

    def some_keys(self, n):
        numbers_asked = range(-1, 2 * n + 1) if n < 20 else sorted({
            -1, 0, 1, 2, n // 2, n - 1, n, n + 1, 2 * n // 3, 4 * n // 3, 2 * n - 3, 2 * n - 2, 2 * n - 1})
        return [(number, "asked") for number in numbers_asked]

    def fill(self, keys):
        order = Asked(by_tag)
        kept = Map(order)
        for n, key in enumerate(keys):
            self.check(kept, order, self.some_keys(n) + [(key, "asked")])
            order.questions.clear()
            self.assertIs(kept.put((key, "held"), n), True)
            self.assertLessEqual(order.count(), most(n))
        self.check(kept, order, self.some_keys(len(keys)))
        return kept, order

    def test_keys_put_in_order_turned_about_and_any(self):
        mixed = sorted(range(300), key=lambda number: number * 7919 % 1009)
        for keys in (rising(300, 2), rising(300, 2)[::-1], [2 * key for key in mixed]):
            self.fill(keys)

    def test_after_many_drops(self):
        mixed = sorted(range(300), key=lambda number: number * 31 % 307)
        for dropped in (rising(300), rising(300)[::-1], mixed):
            order = Asked(by_tag)
            kept = map_of(tagged(rising(300, 2)), order)
            for number in dropped:
                n = kept.size()
                self.check(kept, order, self.some_keys(n) + [(2 * number, "asked")])
                order.questions.clear()
                self.assertIs(kept.drop((2 * number, "asked")), True)
                self.assertLessEqual(order.count(), most(n))
            self.assertEqual(kept.size(), 0)

    def test_dropped_and_put_by_turns(self):
        order = Asked(by_tag)
        kept = Map(order)
        for turn, number in enumerate(numbers(900, 400, 8)):
            n = kept.size()
            order.questions.clear()
            if turn % 3 == 2:
                kept.drop((number, "asked"))
            else:
                kept.put((number, "held"), turn)
            self.assertLessEqual(order.count(), most(n))
            self.check(kept, order, [(number, "asked"), (number + 1, "asked")])

    def test_every_key_of_every_size(self):
        for n in list(range(33)) + [63, 64, 127, 128, 255, 256, 300]:
            order = Asked(by_tag)
            kept = map_of(tagged(rising(n, 2)), order)
            self.check(kept, order, [(number, "asked") for number in range(-1, 2 * n + 1)])

    def test_the_others_ask_none(self):
        for n in (0, 1, 2, 50, 300):
            order = Asked(by_number)
            kept = map_of(rising(n), order)
            order.questions.clear()
            kept.size()
            kept.pairs()
            other = kept.copy()
            other.size()
            other.pairs()
            for place in range(n):
                kept.at(place)
                other.at(place)
            self.assertEqual(order.count(), 0)

    def test_asked_of_the_held_key_and_the_one_handed_in(self):
        # A text that is looked for among whole numbers: turned about, the function couldn't answer.
        order = lambda held, key: held - int(key) if isinstance(key, str) else held - key
        kept = map_of(rising(100, 3), order)
        for number in range(-2, 302):
            there = number % 3 == 0 and 0 <= number < 300
            self.assertIs(kept.has(str(number)), there)
            self.assertEqual(kept.rank(str(number)), sum(key < number for key in rising(100, 3)))
            self.assertEqual(got(kept, str(number)), ("value of", number) if there else "refused")
        self.assertIs(kept.drop("3"), True)
        self.assertIs(kept.drop("4"), False)

    def test_making_a_map_asks_none(self):
        Map(scripted([])).copy()


class NoOrderTest(unittest.TestCase):
    """[54]: the pairs that are due are kept beside the map, as they are put and dropped."""

    def turn_of(self, kept, order, due, key, value, dropped, name):
        n = kept.size()
        before = Counter(kept.pairs())
        order.questions.clear()
        told = kept.drop(key) if dropped else kept.put(key, value)
        self.assertIn(told, (True, False), name)
        self.assertLessEqual(order.count(), most(n), name)
        after = Counter(kept.pairs())
        gone = before - after
        new = after - before
        if not told:
            self.assertEqual([pair[0] for pair in gone], [pair[0] for pair in new], name)
            self.assertLessEqual(sum(new.values()), 0 if dropped else 1, name)
            if new:
                self.assertEqual([pair[1] for pair in new], [value], name)
            return due
        self.assertEqual((sum(gone.values()), sum(new.values())), (1, 0) if dropped else (0, 1), name)
        if not dropped:
            self.assertEqual(list(new), [(key, value)], name)
        return due - 1 if dropped else due + 1

    def looks(self, kept, order, due, key, name):
        pairs = kept.pairs()
        self.assertEqual(kept.size(), due, name)
        self.assertEqual(len(pairs), due, name)
        self.assertEqual([kept.at(place) for place in range(due)], pairs, name)
        for asked, ask in ASKING.items():
            if asked not in ("put", "drop"):
                order.questions.clear()
                told = ask(kept, key)
                self.assertLessEqual(order.count(), most(due), (name, asked))
                if asked == "rank":
                    self.assertIn(told, range(due + 1), name)
                elif asked == "get":
                    self.assertIn(told, [held for _, held in pairs] + ["refused"], name)
                else:
                    self.assertIn(told, (True, False), name)
        self.assertEqual(kept.pairs(), pairs, name)

    def run_turns(self, make, many, name):
        order = Asked(make())
        kept = Map(order)
        due = 0
        choices = numbers(many, 10, many)
        for turn, number in enumerate(numbers(many, 40, many + 1)):
            key = (number, f"key {turn}")
            due = self.turn_of(kept, order, due, key, turn, choices[turn] < 4, (name, turn))
            self.looks(kept, order, due, key, (name, turn))

    def test_long_turns(self):
        for name, make in no_orders(40).items():
            self.run_turns(make, 250, name)

    def test_always_behind_and_always_ahead_keep_all(self):
        for answer in (1, -1):
            order = Asked(lambda first, second: answer)
            kept = Map(order)
            row = tagged(numbers(300, 5, 1))
            for n, key in enumerate(row):
                order.questions.clear()
                self.assertIs(kept.put(key, n), True)
                self.assertLessEqual(order.count(), most(n))
            self.assertEqual(Counter(kept.pairs()), Counter(zip(row, range(300))))
            self.assertIs(kept.drop(row[0]), False)
            self.assertEqual(kept.size(), 300)

    def test_the_same_key_many_times(self):
        kept = Map(lambda first, second: 1)
        for turn in range(50):
            self.assertIs(kept.put(7, "held"), True)
        self.assertEqual(kept.pairs(), [(7, "held")] * 50)
        self.assertEqual(kept.size(), 50)

    def test_always_like_keeps_one(self):
        kept = Map(lambda first, second: 0)
        self.assertIs(kept.put(1, "a"), True)
        self.assertIs(kept.put(2, "b"), False)
        self.assertEqual(kept.pairs(), [(1, "b")])
        self.assertIs(kept.drop(3), True)
        self.assertIs(kept.drop(3), False)
        self.assertEqual(kept.pairs(), [])

    def test_filled_first_by_an_order(self):
        for n in (1, 2, 3, 30, 127, 128, 300):
            for name, make in no_orders(n).items():
                state = {"answer": by_tag}
                order = Asked(lambda first, second: state["answer"](first, second))
                kept = map_of(tagged(numbers(n, 10 * n, n)), order)
                state["answer"] = make()
                due = kept.size()
                for turn in range(12):
                    key = (turn, "later")
                    due = self.turn_of(kept, order, due, key, turn, turn % 2 == 1, (name, n, turn))
                    self.looks(kept, order, due, key, (name, n, turn))

    def test_copies_keep_what_is_there(self):
        kept = Map(told_in_turn([0, 5, -5, 5, 0, 0, -1, -2]))
        for turn in range(60):
            kept.put((turn, "key"), turn)
        pairs = kept.pairs()
        other = kept.copy()
        for turn in range(60):
            other.put((turn, "other"), turn)
            other.drop((turn, "other"))
        self.assertEqual(kept.pairs(), pairs)


if __name__ == "__main__":
    unittest.main()
