"""Maps: keys, no two alike, kept in order by a function that is handed in, each with a value."""

from yourorder.errors import NoElement, NoPlace
from yourorder.rows import lower


# The pairs of keys and values lie in one row in the keys' order: so a key is found in log(n + 1) questions and one
# more, however the keys came and went.
class Map:
    def __init__(self, order):
        self.order = order
        self.kept = []

    def put(self, key, held):
        place = self.rank(key)
        if self.is_like(place, key):
            elder = self.kept[place][0]
            self.kept[place] = (elder, held)
            return False
        self.kept.insert(place, (key, held))
        return True

    def drop(self, key):
        place = self.rank(key)
        if self.is_like(place, key):
            self.kept.pop(place)
            return True
        return False

    def get(self, key):
        place = self.rank(key)
        if self.is_like(place, key):
            return self.kept[place][1]
        raise NoElement("the map has no key like this one")

    def has(self, key):
        return self.is_like(self.rank(key), key)

    def size(self):
        return len(self.kept)

    # The refusal doesn't name the place: Python writes no number of more than some thousand digits as a text.
    def at(self, place):
        if place < 0 or place >= len(self.kept):
            raise NoPlace("the map has no such place")
        return self.kept[place]

    def pairs(self):
        return list(self.kept)

    def rank(self, key):
        order = self.order
        return lower(self.kept, key, lambda pair, wanted: order(pair[0], wanted))

    def copy(self):
        told = Map(self.order)
        told.kept = list(self.kept)
        return told

    # The place of a key's rank is the only one at which a like key can lie.
    def is_like(self, place, key):
        order = self.order
        return place < len(self.kept) and order(self.kept[place][0], key) == 0
