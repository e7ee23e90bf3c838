"""Point 14: the diary of a lesson and a book."""

import unittest
from copy import deepcopy
from random import Random

from helper import STRANGE, random_book, random_lesson
from tenturns.rows import diary_of, is_diary, standing_by

LESSON = (7, 2, 30)
BOOK = ((3, "wish", (0,)), (5, "wish", (1, 2)), (5, "wish", (4,)), (8, "leave", 0), (80, "leave", 4))
DIARY = [
    ((), (), ()),
    ((0,), (), ()),
    ((0,), ((1, 2),), ()),
    ((0, 4), ((1, 2),), ()),
    ((4,), ((1, 2),), ()),
    ((), ((1, 2),), (4,)),
]


def changed(part):
    """Things that are nearly a standing, and a standing that is another one."""
    inside, waiting, lost = part
    yield from [list(part), part[:2], part + ((),), (), None, True, "", 0, {0: part}, [part]]
    yield from [(list(inside), waiting, lost), (inside, list(waiting), lost), (inside, waiting, list(lost))]
    yield from [(lost, waiting, inside + (9,)), (inside + (9,), waiting, lost), (inside, waiting + ((9,),), lost)]
    yield from [(inside, waiting, lost + (9,)), (None, waiting, lost), (inside, None, lost), (inside, waiting, None)]
    yield from [(inside, waiting + (9,), lost), (inside, waiting + ([9],), lost), ((inside,), waiting, lost)]
    yield from [(inside, tuple([list(party) for party in waiting]) + ([8],), lost)]


class TestDiary(unittest.TestCase):
    def test_told_is_the_list_of_standings(self):
        self.assertEqual(diary_of(LESSON, BOOK), DIARY)
        self.assertIs(type(diary_of(LESSON, BOOK)), list)
        self.assertEqual(diary_of(LESSON, ()), [((), (), ())])
        self.assertEqual(diary_of(lesson=LESSON, book=BOOK), DIARY)

    def test_its_last_one_is_the_standing_by_the_last_hour(self):
        chance = Random(14)
        for _ in range(200):
            lesson = random_lesson(chance)
            book = random_book(chance, lesson)
            diary = diary_of(lesson, book)
            self.assertEqual(len(diary), len(book) + 1)
            self.assertEqual(diary[-1], standing_by(lesson, book))
            self.assertIs(is_diary(lesson, book, diary), True)
            self.assertIs(is_diary(lesson, book, diary[1:]), False)
            self.assertIs(is_diary(lesson, book, [*diary, diary[-1]]), False)

    def test_the_diary_itself(self):
        self.assertIs(is_diary(LESSON, BOOK, deepcopy(DIARY)), True)
        self.assertIs(is_diary(lesson=LESSON, book=BOOK, thing=DIARY), True)
        self.assertIs(is_diary(LESSON, (), [((), (), ())]), True)

    def test_any_one_part_changed(self):
        for at, part in enumerate(DIARY):
            for other in changed(part):
                thing = DIARY[:at] + [other] + DIARY[at + 1:]
                self.assertIs(is_diary(LESSON, BOOK, thing), False, thing)

    def test_any_one_part_left_out_or_put_twice(self):
        for at in range(len(DIARY)):
            self.assertIs(is_diary(LESSON, BOOK, DIARY[:at] + DIARY[at + 1:]), False)
            self.assertIs(is_diary(LESSON, BOOK, DIARY[:at + 1] + DIARY[at:]), False)
        for at in range(len(DIARY) - 1):
            swapped = DIARY[:at] + [DIARY[at + 1], DIARY[at]] + DIARY[at + 2:]
            self.assertIs(is_diary(LESSON, BOOK, swapped), False)

    def test_truths_are_no_persons(self):
        book = ((3, "wish", (0, 1)), (4, "wish", (2,)), (90, "leave", 1))
        diary = diary_of(LESSON, book)
        self.assertEqual(diary[-1], ((0,), ((2,),), (1,)))
        for last in [((False,), ((2,),), (1,)), ((0,), ((2,),), (True,))]:
            self.assertEqual(diary[:-1] + [last], diary)
            self.assertIs(is_diary(LESSON, book, diary[:-1] + [last]), False)
        waits = [((), (), ()), ((), ((0, 1),), ())]
        self.assertIs(is_diary((0, 1, 0), book[:1], waits), True)
        for party in [(False, 1), (0, True), [0, 1]]:
            self.assertIs(is_diary((0, 1, 0), book[:1], [waits[0], ((), (party,), ())]), False)

    def test_strange_things(self):
        for thing in [*STRANGE, tuple(DIARY), {0: DIARY}, [DIARY], repr(DIARY)]:
            before = repr(thing)
            self.assertIs(is_diary(LESSON, BOOK, thing), False)
            self.assertEqual(repr(thing), before)
        for thing in STRANGE:
            self.assertIs(is_diary(LESSON, (), thing), repr(thing) == "[((), (), ())]")


if __name__ == "__main__":
    unittest.main()
