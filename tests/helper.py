"""What the tests share: functions to hand in, a record of questions, rows, and plain counts to test against."""


class Asked:
    """A function to hand in that keeps each question, in its turn."""

    def __init__(self, answer):
        self.answer = answer
        self.questions = []

    def __call__(self, first, second, /):
        self.questions.append((first, second))
        return self.answer(first, second)

    def count(self):
        return len(self.questions)


def sign(number):
    return (number > 0) - (number < 0)


def by_number(first, second):
    return (first - second) * 7


def by_tag(first, second):
    """An order of pairs (key, tag) by the key alone, with answers of many sizes."""
    return (first[0] - second[0]) * 1000003


def by_size(first, second):
    """Elements are numbers; like ones are those in the same ten."""
    return first // 10 - second // 10


def by_text(first, second):
    return -5 if first < second else 9 if first > second else 0


def rank_of(element):
    """A list that Python compares, for each kind of element."""
    if element is None:
        return [0]
    if isinstance(element, bool):
        return [1, int(element)]
    if isinstance(element, int):
        return [2, element]
    if isinstance(element, str):
        return [3, element]
    return [4, [rank_of(part) for part in element]]


def by_kind(first, second):
    return by_text(rank_of(first), rank_of(second))


EVERY_KIND = [(), 3, "", None, True, (None, (1, "a")), "b", -10 ** 30, False, 1, 0, "a", (1,), (True,), "B", 10 ** 30,
              None, True, 1, ("a", "a"), (None, (1, "a")), 0, False, ""]

# Of more digits than Python writes as a text: a test that failed couldn't show it, so it stands in no message.
FAR = 10 ** 5000


def log(number):
    k = 0
    while 2 ** k < number:
        k += 1
    return k


def numbers(many, below, seed):
    """A row of numbers from 0 on that looks mixed, and is the same each time."""
    state = seed * 7919 + 17
    row = []
    for place in range(many):
        state = (state * 1103515245 + 12345) % 2 ** 31
        row.append((state >> 8) % below)
    return row


def tagged(keys, name="one"):
    """Each element of its own, so that like ones can be told apart."""
    return [(key, f"{name}{place}") for place, key in enumerate(keys)]


def rising(many, step=1, start=0):
    return [start + step * place for place in range(many)]


def rows_of(n):
    """Rows of n elements: many like ones and none, mixed, in order, turned about, all alike."""
    yield tagged(numbers(n, 4, n))
    yield tagged(numbers(n, n // 2 + 1, n + 1))
    yield tagged(sorted(range(n), key=lambda number: number * 7919 % 1009))
    yield tagged(rising(n))
    yield tagged(rising(n)[::-1])
    yield tagged([5] * n)


def inserted(row, order):
    """The stable order, found by plain insertion."""
    told = []
    for element in row:
        place = len(told)
        while place > 0 and order(told[place - 1], element) > 0:
            place -= 1
        told.insert(place, element)
    return told


def told_in_turn(answers):
    """Answers in their turn, over and over, whatever is asked."""
    state = {"asked": 0}

    def answer(first, second):
        state["asked"] += 1
        return answers[(state["asked"] - 1) % len(answers)]

    return answer


def scripted(answers):
    """Answers in their turn; a question too many fails."""
    left = list(answers)
    return lambda first, second: left.pop(0)


def late_fall(many):
    """In order till the last question of a first look, then such answers as make each merge as dear as can be."""
    state = {"asked": 0}

    def answer(first, second):
        state["asked"] += 1
        if state["asked"] < many - 1:
            return -1
        return 1 if (state["asked"] - many) % 2 else -4

    return answer


MIXED = [number - 3 for number in numbers(997, 7, 5)]
MOSTLY_BEHIND = [number - 1 for number in numbers(991, 9, 6)]


def no_orders(many):
    """Makers of functions that are no order, each under its name. Some keep count of what they were asked, so each
    call of the program wants one made anew."""
    return {
        "always 1": lambda: lambda first, second: 1,
        "always -1": lambda: lambda first, second: -1,
        "always 0": lambda: lambda first, second: 0,
        "always much": lambda: lambda first, second: 10 ** 20,
        "turn about": lambda: told_in_turn([1, -1]),
        "turn about, below first": lambda: told_in_turn([-3, 8]),
        "three by turns": lambda: told_in_turn([0, 5, -5, 5, 0, 0, -1]),
        "otherwise each time": lambda: told_in_turn(MIXED),
        "mostly behind": lambda: told_in_turn(MOSTLY_BEHIND),
        "late fall": lambda: late_fall(many),
        "in a ring": lambda: lambda first, second: (first[0] - second[0] + 1) % 3 - 1,
        "forgets a case": lambda: lambda first, second: 0 if (first[0] + second[0]) % 4 == 1 else first[0] - second[0],
        "never like itself": lambda: lambda first, second: 1 if first[0] >= second[0] else -1,
    }


def is_in_turn(part, row):
    """Whether part is some of row's elements, in their turn; the elements are unlike objects."""
    place = 0
    for element in row:
        if place < len(part) and part[place] is element:
            place += 1
    return place == len(part)


def same(one, other):
    """Alike in kind too: 1 == True for Python, but they are two elements."""
    return repr(one) == repr(other)
