"""faces.py, [9]: the rooms between the strings of a mat."""

import random
import unittest

from hookmats import faces, mats
from hookmats.errors import InvalidMat, InvalidNumber, InvalidPeg, InvalidRoom, InvalidString
from tests import oracles
from tests.checks import Case, NO_MATS

CAP, CUP, LINE, HOOK = (2, 0, (1, 0)), (0, 2, (1, 0)), (1, 1, (1, 0)), (2, 2, (1, 0, 3, 2))
BAD = (1, 1, (0, 1))
WRONG = [-1, -2, -9, 10 ** 30, -(10 ** 30)]
ONE_CALLS = [(faces.rooms, ()), (faces.colours, ()), (faces.sides, ())]


def wide_mats():
    """Some mats of sixteen pegs, of each number above."""
    chance = random.Random(2)
    told = []
    for n in range(17):
        numbers = [0, 1429] + [chance.randrange(1430) for _ in range(4)]
        told.extend(mats.nth(n, 16 - n, number) for number in numbers)
    return told + [oracles.straight(8), (16, 0, tuple(range(15, -1, -1))), (0, 16, tuple(range(15, -1, -1)))]


class TestRooms(Case):

    def test_by_hand(self):
        self.assert_same_kind(faces.rooms(HOOK), [((), (1,)), ((0, 2), (0, 2)), ((1,), ())])
        self.assert_same_kind(faces.rooms(LINE), [((0,), (0,)), ((1,), (1,))])
        self.assert_same_kind(faces.rooms((2, 2, (2, 3, 0, 1))), [((0,), (0,)), ((1,), (1,)), ((2,), (2,))])
        self.assert_same_kind(faces.rooms(CAP), [((0, 2), (0,)), ((1,), ())])
        self.assert_same_kind(faces.rooms(CUP), [((), (1,)), ((0,), (0, 2))])
        self.assert_same_kind(faces.rooms((4, 0, (3, 2, 1, 0))), [((0, 4), (0,)), ((1, 3), ()), ((2,), ())])
        self.assert_same_kind(faces.rooms((3, 1, (3, 2, 1, 0))), [((0,), (0,)), ((1, 3), (1,)), ((2,), ())])

    def assert_rooms(self, mat):
        told = self.in_time(faces.rooms, mat)
        self.assert_same_kind(told, oracles.rooms(mat))
        self.assertEqual(len(told), (mat[0] + mat[1]) // 2 + 1)
        # Each gap is in one room.
        self.assertEqual(sorted(gap for above, _ in told for gap in above), list(range(mat[0] + 1)))
        self.assertEqual(sorted(gap for _, below in told for gap in below), list(range(mat[1] + 1)))

    def test_all_small_mats(self):
        for mat in oracles.mats_to(10):
            self.assert_rooms(mat)

    def test_sixteen_pegs(self):
        for mat in wide_mats():
            self.assert_rooms(mat)


class TestRoomAt(Case):

    def test_by_hand(self):
        self.assert_same_kind([faces.room_at(HOOK, False, gap) for gap in range(3)], [1, 2, 1])
        self.assert_same_kind([faces.room_at(HOOK, True, gap) for gap in range(3)], [1, 0, 1])
        self.assert_same_kind([faces.room_at(CUP, True, gap) for gap in range(3)], [1, 0, 1])
        self.assert_same_kind(faces.room_at(CUP, False, 0), 1)
        self.assert_same_kind(faces.room_at(CAP, True, 0), 0)

    def test_each_gap(self):
        for mat in oracles.mats_to(8) + wide_mats():
            told = oracles.rooms(mat)
            for below in (False, True):
                for gap in range(mat[1 if below else 0] + 1):
                    wanted = next(at for at, room in enumerate(told) if gap in room[1 if below else 0])
                    self.assert_same_kind(faces.room_at(mat, below, gap), wanted)
            self.assertEqual(faces.room_at(mat, False, 0), faces.room_at(mat, True, 0))
            self.assertEqual(faces.room_at(mat, False, mat[0]), faces.room_at(mat, True, mat[1]))


class TestColours(Case):

    def test_by_hand(self):
        self.assert_same_kind(faces.colours(HOOK), [1, 0, 1])
        self.assert_same_kind(faces.colours(LINE), [0, 1])
        self.assert_same_kind(faces.colours((2, 2, (2, 3, 0, 1))), [0, 1, 0])
        self.assert_same_kind(faces.colours(CUP), [1, 0])
        self.assert_same_kind(faces.colours((4, 0, (3, 2, 1, 0))), [0, 1, 0])

    def test_all_small_mats_and_wide_ones(self):
        for mat in oracles.mats_to(10) + wide_mats():
            told = faces.colours(mat)
            places = [oracles.place_of_room(mat, room) for room in oracles.rooms(mat)]
            # By how many strings part it from gap 0.
            wanted = [len(oracles.parting(mat, 0, place)) % 2 for place in places]
            self.assert_same_kind(told, wanted)
            self.assertEqual(told[faces.room_at(mat, False, 0)], 0)
            for _, _, a, b in faces.sides(mat):
                self.assertEqual(sorted([told[a], told[b]]), [0, 1])


class TestSides(Case):

    def test_by_hand(self):
        self.assert_same_kind(faces.sides(HOOK), [(0, 1, 1, 2), (2, 3, 0, 1)])
        self.assert_same_kind(faces.sides(LINE), [(0, 1, 0, 1)])
        self.assert_same_kind(faces.sides((3, 1, (3, 2, 1, 0))), [(0, 3, 0, 1), (1, 2, 1, 2)])
        self.assert_same_kind(faces.sides(CUP), [(0, 1, 0, 1)])

    def assert_sides(self, mat):
        told = self.in_time(faces.sides, mat)
        self.assert_same_kind(told, oracles.sides(mat))
        self.assertEqual([(p, q) for p, q, _, _ in told], mats.strings(mat))
        # A tree: one room more than strings, and all of them hang together.
        lots = {room: {room} for room in range(len(told) + 1)}
        for _, _, a, b in told:
            self.assertFalse(lots[a] & lots[b])
            lot = lots[a] | lots[b]
            for room in lot:
                lots[room] = lot
        self.assertEqual(lots[0], set(range(len(faces.rooms(mat)))))

    def test_all_small_mats(self):
        for mat in oracles.mats_to(10):
            self.assert_sides(mat)

    def test_sixteen_pegs(self):
        for mat in wide_mats():
            self.assert_sides(mat)


class TestBetween(Case):

    def test_by_hand(self):
        self.assert_same_kind(faces.between(HOOK, 1, 2), [(0, 1)])
        self.assert_same_kind(faces.between(HOOK, 0, 2), [(2, 3), (0, 1)])
        self.assert_same_kind(faces.between(HOOK, 2, 0), [(0, 1), (2, 3)])
        self.assert_same_kind(faces.between(HOOK, 1, 1), [])
        three = oracles.straight(3)
        self.assert_same_kind(faces.between(three, 0, 3), [(0, 3), (1, 4), (2, 5)])
        self.assert_same_kind(faces.between(three, 3, 1), [(2, 5), (1, 4)])
        nested = (6, 0, (5, 4, 3, 2, 1, 0))
        self.assert_same_kind(faces.between(nested, 3, 0), [(2, 3), (1, 4), (0, 5)])

    def test_each_two_rooms(self):
        for mat in oracles.mats_to(8):
            many = (mat[0] + mat[1]) // 2 + 1
            for one in range(many):
                for other in range(many):
                    self.assert_same_kind(faces.between(mat, one, other), oracles.between(mat, one, other))
                self.assert_same_kind(faces.between(mat, one, one), [])

    def test_sixteen_pegs(self):
        for mat in wide_mats():
            places = [oracles.place_of_room(mat, room) for room in oracles.rooms(mat)]
            self.assertEqual(len(places), 9)
            for one in range(9):
                for other in range(9):
                    told = self.in_time(faces.between, mat, one, other)
                    self.assertEqual(sorted(told), oracles.parting(mat, places[one], places[other]))
                    self.assertEqual(faces.between(mat, other, one), told[::-1])
                    if one % 4 == 0:
                        self.assert_same_kind(told, oracles.between(mat, one, other))


class TestCutString(Case):

    def test_by_hand(self):
        self.assert_same_kind(faces.cut_string(HOOK, 0), CUP)
        self.assert_same_kind(faces.cut_string(HOOK, 1), CUP)
        self.assert_same_kind(faces.cut_string(HOOK, 2), CAP)
        self.assert_same_kind(faces.cut_string((3, 1, (3, 2, 1, 0)), 3), CAP)
        self.assert_same_kind(faces.cut_string((3, 1, (3, 2, 1, 0)), 1), LINE)
        self.assert_same_kind(faces.cut_string(oracles.straight(3), 4), (2, 2, (2, 3, 0, 1)))

    def assert_cut(self, mat):
        for peg in range(mat[0] + mat[1]):
            told = self.in_time(faces.cut_string, mat, peg)
            self.assert_same_kind(told, oracles.cut_string(mat, peg))
            self.assertTrue(oracles.is_mat(told))
            self.assertEqual(faces.cut_string(mat, mat[2][peg]), told)

    def test_each_peg(self):
        for mat in oracles.mats_to(10) + wide_mats():
            if mat[0] + mat[1] > 2:
                self.assert_cut(mat)

    def test_until_one_is_left(self):
        chance = random.Random(3)
        for mat in wide_mats() + oracles.mats_to(6):
            while mat[0] + mat[1] > 2:
                peg = chance.randrange(mat[0] + mat[1])
                left = faces.cut_string(mat, peg)
                self.assert_same_kind(left, oracles.cut_string(mat, peg))
                self.assertEqual(len(faces.rooms(left)), len(faces.rooms(mat)) - 1)
                mat = left
            for peg in (0, 1):
                self.assert_raised(InvalidString, (0, 1), faces.cut_string, mat, peg)


class TestErrors(Case):

    def test_no_mats(self):
        for told in NO_MATS.values():
            for call, rest in ONE_CALLS:
                self.assert_raised_itself(InvalidMat, told, call, told, *rest)
            for number in [0, 1] + WRONG:
                for below in (True, False):
                    self.assert_raised_itself(InvalidMat, told, faces.room_at, told, below, number)
                for other in (0, -1):
                    self.assert_raised_itself(InvalidMat, told, faces.between, told, number, other)
                self.assert_raised_itself(InvalidMat, told, faces.cut_string, told, number)

    def test_wrong_gaps(self):
        for mat in oracles.mats_to(8) + wide_mats():
            n, m, _ = mat
            for gap in WRONG + [n + 1, n + 2, -n - 1]:
                self.assert_raised_itself(InvalidNumber, gap, faces.room_at, mat, False, gap)
            for gap in WRONG + [m + 1, m + 2, -m - 1]:
                self.assert_raised_itself(InvalidNumber, gap, faces.room_at, mat, True, gap)

    def test_wrong_rooms(self):
        for mat in oracles.mats_to(6) + wide_mats():
            many = (mat[0] + mat[1]) // 2 + 1
            for wrong in WRONG + [many, many + 1, -many]:
                for right in range(many):
                    self.assert_raised_itself(InvalidRoom, wrong, faces.between, mat, wrong, right)
                    self.assert_raised_itself(InvalidRoom, wrong, faces.between, mat, right, wrong)
                for other in (-3, many + 2):
                    self.assert_raised_itself(InvalidRoom, wrong, faces.between, mat, wrong, other)

    def test_wrong_pegs(self):
        for mat in oracles.mats_to(8) + wide_mats():
            pegs = mat[0] + mat[1]
            for peg in WRONG + [pegs, pegs + 1, -pegs]:
                self.assert_raised_itself(InvalidPeg, peg, faces.cut_string, mat, peg)

    def test_the_only_string(self):
        for mat in (CAP, CUP, LINE):
            for peg in (0, 1):
                self.assert_raised(InvalidString, (0, 1), faces.cut_string, mat, peg)

    def test_right_behind_wrong(self):
        still = self.assert_answered_still
        for call, _ in ONE_CALLS:
            still(call, (HOOK,), (BAD,), ((2, 2, (3, 2, 1, 0)),))
        still(faces.room_at, (HOOK, True, 1), (BAD, True, 1), (HOOK, True, 3), (HOOK, False, -1))
        still(faces.between, (HOOK, 0, 2), (BAD, 0, 1), (HOOK, 3, 0), (HOOK, 0, -1))
        still(faces.cut_string, (HOOK, 2), (BAD, 0), (HOOK, 4), (LINE, 0))


class TestCalls(Case):

    def test_by_position_and_by_name(self):
        for call, _ in ONE_CALLS:
            self.assert_by_name(call, mat=HOOK)
        self.assert_by_name(faces.room_at, mat=(3, 1, (3, 2, 1, 0)), below=False, gap=2)
        self.assert_by_name(faces.between, mat=HOOK, one=0, other=2)
        self.assert_by_name(faces.cut_string, mat=(3, 1, (3, 2, 1, 0)), peg=1)

    def test_new_lists(self):
        for mat in (HOOK, LINE, CUP, oracles.straight(3)):
            for call, _ in ONE_CALLS:
                self.assert_new_lists(call, mat)
            self.assert_new_lists(faces.between, mat, 0, 1)
            self.assert_new_lists(faces.between, mat, 0, 0)

    def test_what_was_told_may_be_passed_on(self):
        for mat in wide_mats():
            for p, q, a, b in faces.sides(mat):
                self.assertEqual(faces.between(mat, a, b), [(p, q)])
                left = faces.cut_string(mat, p)
                self.assertEqual(len(faces.sides(left)), 7)
                self.assertEqual(faces.cut_string(mat, q), left)


if __name__ == "__main__":
    unittest.main()
