"""What several tests need: things of whatever kind, and slow but plain ways to the same answers."""

from itertools import product


def nested(depth):
    thing = ()
    for _ in range(depth):
        thing = (thing,)
    return thing


STRANGE = [
    None, True, False, 0, 1, 3, -1, 99, 10 ** 20 - 1, -(10 ** 20 - 1),
    "", "leave", "wish", "(0, 1, 0)", "abc",
    [], [0], [0, 1, 0], [(0, 1, 0)], [[], [], []], [None], [((), (), ())],
    {}, {0: 1}, {0: 1, 1: 2, 2: 3}, {"hour": 0}, {(): ()},
    (), (0,), (None,), (True,), (False,), ("a",), ([],), ({},), ((),), (10 ** 20 - 1,), (-1,),
    (None, None, None), (True, True, True), (True, False, True), ("a", "b", "c"), ([], [], []), ({}, {}, {}),
    ((), (), ()), (0, None, 1), (0, "leave", None), (0, "wish", None), (0, "wish", ()), (None, "leave", 0),
    ("0", "leave", 0), (0, "go", 0), (0, ["leave"], 0), (0, {}, (1,)), (0, (), ()), ([0], [1], [2]),
    (0, "leave", "1"), (1, "a"), ("a", 1), (1, None, "a", [], {}, ()), ((1,), 1, "1", [1], {1: 1}, None, True),
    ((0, "leave", 1), None), (None, (0, "leave", 1)), ((0, 1, 2), "x"), (5, (5,)), ((5,), 5),
    nested(9), [nested(8)], {"a": nested(8)}, tuple(range(900)), list(range(900)), ("x",) * 900,
    10 ** 20 - 1, (10 ** 20 - 1,) * 3, (-(10 ** 20 - 1),) * 3,
]


def every_choice(good, bad):
    """Each way to hand in good or bad arguments: (arguments, place of the first bad one or None)."""
    for choice in product((False, True), repeat=len(good)):
        handed = [bad[at] if choice[at] else good[at] for at in range(len(good))]
        yield handed, (choice.index(True) if True in choice else None)


class Row:
    """A lesson's row done slowly, deed by deed, on one list of marks."""

    def __init__(self, lesson):
        self.places, self.late = lesson[1], lesson[2]
        self.mark = {}
        self.queue = []
        self.came = []

    def free(self):
        return self.places - sum(1 for mark in self.mark.values() if mark in ("in", "lost"))

    def enter(self, hour, party):
        self.came.append((hour, party))
        self.mark.update((person, "in") for person in party)

    def can(self, deed):
        hour, word, who = deed
        if word == "wish":
            return not any(person in self.mark for person in who)
        return self.mark.get(who) in ("in", "waits")

    def do(self, deed):
        hour, word, who = deed
        if word == "wish":
            if len(who) <= self.free():
                self.enter(hour, who)
            else:
                self.queue.append(who)
                self.mark.update((person, "waits") for person in who)
        elif self.mark[who] == "waits":
            party = [party for party in self.queue if who in party][0]
            self.queue.remove(party)
            for person in party:
                del self.mark[person]
        elif hour + self.late > 100:
            self.mark[who] = "lost"
        else:
            del self.mark[who]
            at = 0
            while at < len(self.queue):
                if len(self.queue[at]) <= self.free():
                    self.enter(hour, self.queue.pop(at))
                else:
                    at += 1

    def standing(self):
        marked = {mark: tuple(sorted(p for p in self.mark if self.mark[p] == mark)) for mark in ("in", "lost")}
        return marked["in"], tuple(self.queue), marked["lost"]


def row_behind(lesson, deeds):
    """The row behind deeds that can all be done, else None."""
    row = Row(lesson)
    for deed in deeds:
        if not row.can(deed):
            return None
        row.do(deed)
    return row


def random_lesson(chance):
    return chance.randrange(60), chance.randint(1, 6), chance.choice((0, 1, 24, 50, 76, 99, 100, chance.randint(0, 100)))


def random_deed(chance, hour):
    if chance.random() < 0.5:
        return hour, "leave", chance.randrange(10)
    many = chance.choice((1, 1, 2, 2, 3))
    return hour, "wish", tuple(sorted(chance.sample(range(10), many)))


def random_book(chance, lesson, wrong=0.0):
    """A book; where wrong is 0, one in which all deeds can be done."""
    row, book, hour = Row(lesson), [], 0
    for _ in range(chance.choice((3, 12, 60, 200))):
        hour = min(99, hour + chance.choice((0, 0, 0, 1, 4)))
        deed = random_deed(chance, hour)
        if len(book) == 24 or (book and deed <= book[-1]):
            continue
        if row is not None and row.can(deed):
            row.do(deed)
        elif chance.random() >= wrong:
            continue
        else:
            row = None
        book.append(deed)
    return tuple(book)


def random_cards(chance, many, last_day=59, most_turns=10):
    cards = []
    for _ in range(many):
        first, last = sorted((chance.randint(0, last_day), chance.randint(0, last_day)))
        cards.append((first, last, chance.randint(1, most_turns)))
    return tuple(cards)


def random_comings(chance, many, last_day=59):
    return tuple(sorted(chance.randint(0, last_day) for _ in range(many)))


def is_taking_plainly(cards, comings, taking):
    for day, number in zip(comings, taking):
        if number is not None and not cards[number][0] <= day <= cards[number][1]:
            return False
    return all(sum(1 for one in taking if one == number) <= cards[number][2] for number in range(len(cards)))


def all_takings(cards, comings):
    """All takings, tried one by one: for small inputs alone."""
    choices = (None, *range(len(cards)))
    return [t for t in product(choices, repeat=len(comings)) if is_taking_plainly(cards, comings, t)]


def fewest_lost(cards, comings):
    """How many are lost at the least, by paths along which takings are shifted."""
    taken = [[] for _ in cards]

    def place(at, seen):
        for number, (first, last, turns) in enumerate(cards):
            if first <= comings[at] <= last and number not in seen:
                seen.add(number)
                if len(taken[number]) < turns:
                    taken[number].append(at)
                    return True
                for spot, other in enumerate(taken[number]):
                    if place(other, seen):
                        taken[number][spot] = at
                        return True
        return False

    return sum(1 for at in range(len(comings)) if not place(at, set()))
