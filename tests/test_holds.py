"""What holds over the whole fleet, with messages lost, doubled and late, and ships that go on from what they kept."""

import random
import unittest

from tests.helper import LIMIT
from tests.helper import ask, fc_give, fc_haul, fc_heard, fc_load, fc_of, fc_save, fc_say, fc_start, fc_state, kept
from tests.helper import kinds, letter, read_kept

MOST_CALLS = 400
MOST_NUMBERS = 16000


class Fleet:
    """Objects in one list of calls. Each ship is another object than its number says."""

    def __init__(self, ships):
        self.ships = ships
        self.calls = []
        self.answered = []

    def object_of(self, ship):
        return (ship + 1) % self.ships

    def ship_of(self, number):
        return (number - 1) % self.ships

    def numbers(self):
        return sum(len(call) for call in self.calls)

    def has_room(self, calls):
        numbers = self.numbers() + sum(len(call) for call in calls)
        return len(self.calls) + len(calls) <= MOST_CALLS and numbers <= MOST_NUMBERS

    def ask(self, calls):
        """The answers to these calls, behind all that were made before."""
        before = len(self.calls)
        self.calls += calls
        answered = ask(*self.calls)
        if answered[:before] != self.answered:
            raise AssertionError("calls made later changed an answer")
        self.answered = answered
        return answered[before:]


class Voyage:
    """What a fleet does in several lists of calls: all ships go on, in each list, from what they kept last."""

    def __init__(self, test, seed, first):
        self.test = test
        self.chance = random.Random(seed)
        self.first = first
        self.ships = len(first)
        self.kept = {}
        self.live_takes = {ship: set() for ship in range(self.ships)}
        self.kept_takes = {ship: set() for ship in range(self.ships)}
        self.said = {ship: [] for ship in range(self.ships)}
        self.seen = {"haul": 0, "refused haul": 0, "give": 0, "taken": 0, "not taken": 0, "not saved": 0, "power goes": 0}

    def others(self, ship):
        return [other for other in range(self.ships) if other != ship]

    def ask(self, fleet, calls):
        self.test.assertTrue(fleet.has_room(calls))
        for call, answer in zip(calls, fleet.ask(calls)):
            self.look_at(fleet.ship_of(call[1]), call, answer)

    def look_at(self, ship, call, answer):
        sort = call[0]
        if sort == 1:
            self.seen["haul" if answer == [0] else "refused haul"] += 1
        if sort == 2 and answer[0] >= 0:
            self.seen["give"] += 1
        if sort == 3:
            self.look_at_message(call[2], answer)
        if sort == 4:
            self.look_at_heard(ship, call[3:], answer)
        if sort == 5 and call[2] != ship:
            self.known_is_true(answer[1:], call[2])
        if sort == 7:
            self.kept[ship] = answer[1:]
            self.kept_takes[ship] = set(self.live_takes[ship])
            self.look_at_kept()
        if sort == 8:
            self.test.assertEqual(answer, [0])
            self.live_takes[ship] = set(self.kept_takes[ship])

    def look_at_message(self, to, answer):
        if answer == [-16]:
            self.seen["not saved"] += 1
        else:
            self.test.assertEqual(len(answer), 85)
            self.said[to].append(answer[1:])

    def look_at_heard(self, ship, octets, answer):
        """Once: what was taken, and not lost with power, is not taken again."""
        number = int.from_bytes(bytes(octets[8:12]), "little")
        if answer == [1]:
            self.test.assertNotIn((octets[0], number), self.live_takes[ship])
            self.live_takes[ship].add((octets[0], number))
            self.seen["taken"] += 1
        else:
            self.test.assertEqual(answer, [0])
            self.seen["not taken"] += 1

    def known_is_true(self, known, ship):
        caught = read_kept(self.kept[ship])["caught"]
        for kind in range(8):
            self.test.assertLessEqual(known[kind], caught[kind])

    def look_at_kept(self):
        if len(self.kept) < self.ships:
            return
        ships = [read_kept(self.kept[ship]) for ship in range(self.ships)]
        for kind in range(8):
            at_first = sum(right[kind] for right in self.first)
            caught = sum(ship["caught"][kind] for ship in ships)
            right = sum(ship["right"][kind] for ship in ships)
            self.test.assertLessEqual(caught, at_first)
            self.test.assertEqual(right + caught + self.units_under_way(ships, kind), at_first)
        for ship in ships:
            self.test.assertLess(max(ship["right"] + ship["caught"]), LIMIT)
            for other in self.others(ship["me"]):
                self.known_is_true(ship["known"][other], other)

    def units_under_way(self, ships, kind):
        return sum(
            units
            for ship in ships
            for to, gift_kind, number, units in ship["out"]
            if gift_kind == kind and number >= ships[to]["taken"][ship["me"]]
        )

    def begin(self, fleet):
        if self.kept:
            calls = [fc_load(fleet.object_of(ship), self.kept[ship]) for ship in range(self.ships)]
        else:
            calls = [fc_start(fleet.object_of(ship), ship, self.ships, self.first[ship]) for ship in range(self.ships)]
            calls += [fc_save(fleet.object_of(ship)) for ship in range(self.ships)]
        self.ask(fleet, calls)

    def work(self, fleet, ship):
        """What a ship may do in a round: power goes, it hauls, gives, hears, saves, and says to all."""
        number = fleet.object_of(ship)
        calls = []
        if self.chance.random() < 0.07:
            calls.append(fc_load(number, self.kept[ship]))
        deeds = [fc_haul(number, [self.chance.choice((0, 0, 0, 2, 5)) for kind in range(8)])]
        for time in range(3):
            to = self.chance.choice(self.others(ship))
            deeds.append(fc_give(number, to, self.chance.choice((0, 3, 7)), self.chance.randint(1, 12)))
        if self.said[ship]:
            for time in range(2):
                deeds.append(fc_heard(number, self.chance.choice(self.said[ship])))
                deeds.append(fc_heard(number, self.chance.choice(self.said[ship][-3:])))
        self.chance.shuffle(deeds)
        calls += deeds[:self.chance.randint(1, 5)]
        if self.chance.random() < 0.7:
            calls.append(fc_save(number))
        if self.chance.random() < 0.3:
            calls += deeds[5:6]
        calls += [fc_say(number, other) for other in self.others(ship)]
        calls += [fc_of(number, self.chance.choice(range(self.ships)))]
        return calls

    def round(self, fleet):
        return [call for ship in range(self.ships) for call in self.work(fleet, ship)]

    def sail(self):
        """A list of calls, as long as there's room in it for one more round."""
        fleet = Fleet(self.ships)
        self.begin(fleet)
        calls = self.round(fleet)
        while fleet.has_room(calls):
            self.seen["power goes"] += len([call for call in calls if call[0] == 8])
            self.ask(fleet, calls)
            calls = self.round(fleet)

    def come_home(self):
        """All messages come now, till no gift is out."""
        while any(read_kept(octets)["out"] for octets in self.kept.values()):
            fleet = Fleet(self.ships)
            self.begin(fleet)
            for time in range(3):
                self.said = {ship: [] for ship in range(self.ships)}
                self.ask(fleet, [
                    fc_say(fleet.object_of(ship), other) for ship in range(self.ships) for other in self.others(ship)
                ])
                calls = []
                for ship in range(self.ships):
                    calls += [fc_heard(fleet.object_of(ship), octets) for octets in self.said[ship]]
                    calls.append(fc_save(fleet.object_of(ship)))
                self.ask(fleet, calls)
        return [read_kept(self.kept[ship]) for ship in range(self.ships)]


class Holds(unittest.TestCase):
    def sail(self, seed, first):
        voyage = Voyage(self, seed, first)
        voyage.sail()
        voyage.sail()
        return voyage

    def assert_all_is_at_home(self, voyage):
        ships = voyage.come_home()
        for kind in range(8):
            units = sum(ship["right"][kind] + ship["caught"][kind] for ship in ships)
            self.assertEqual(units, sum(right[kind] for right in voyage.first))
        for ship in ships:
            for other in voyage.others(ship["me"]):
                self.assertEqual(ship["known"][other], ships[other]["caught"])
                self.assertEqual(ship["given"][other], ships[other]["taken"][ship["me"]])

    def test_fleets_at_sea(self):
        seen = {}
        for seed, ships in ((1, 2), (2, 3), (3, 4)):
            with self.subTest(seed=seed, ships=ships):
                voyage = self.sail(seed, [kinds(60 + 20 * ship, k3=ship * 30, k5=20) for ship in range(ships)])
                self.assert_all_is_at_home(voyage)
                for name, times in voyage.seen.items():
                    seen[name] = seen.get(name, 0) + times
        self.assertEqual([name for name, times in seen.items() if times < 10], [])

    def test_rights_at_their_limit(self):
        voyage = Voyage(self, 4, [kinds(LIMIT - 1), kinds(100), kinds(100), kinds(LIMIT - 1)])
        voyage.sail()
        self.assertGreater(voyage.seen["give"], 0)
        self.assertGreater(voyage.seen["taken"], 0)


class OneByOne(unittest.TestCase):
    """The rows of "What holds", each where it would break first."""

    def test_a_haul_that_was_not_kept_is_no_catch(self):
        start = [fc_start(0, 0, 2, kinds(10)), fc_save(0)]
        first = ask(*start)[1][1:]
        answered = ask(*start, fc_haul(0, kinds(10)), fc_say(0, 1), fc_load(0, first), fc_haul(0, kinds(10)), fc_save(0))
        self.assertEqual(answered[2:6], [[0], [-16], [0], [0]])
        self.assertEqual(answered[6], [0] + kept(ships=2, caught=kinds(10)))

    def test_a_gift_that_was_not_kept_is_never_said(self):
        start = [fc_start(0, 0, 2, kinds(10)), fc_save(0)]
        first = ask(*start)[1][1:]
        answered = ask(*start, fc_give(0, 1, 0, 10), fc_say(0, 1), fc_load(0, first), fc_say(0, 1), fc_state(0, 0))
        self.assertEqual(answered[2:], [[0], [-16], [0], [0] + letter(0, 1), [0, 10, 0, 0, 0]])

    def test_a_taking_that_was_not_kept_is_never_told(self):
        gift = letter(1, 0, gift=(0, 0, 5))
        start = [fc_start(0, 0, 2, kinds(10)), fc_save(0)]
        first = ask(*start)[1][1:]
        answered = ask(
            *start,
            fc_heard(0, gift),
            fc_say(0, 1),
            fc_load(0, first),
            fc_say(0, 1),
            fc_heard(0, gift),
            fc_save(0),
            fc_say(0, 1),
            fc_heard(0, gift),
            fc_state(0, 0),
        )
        self.assertEqual(answered[2:7], [[1], [-16], [0], [0] + letter(0, 1), [1]])
        self.assertEqual(answered[8:], [[0] + letter(0, 1, took=1), [0], [0, 15, 0, 0, 0]])

    def test_a_gift_is_taken_once_over_a_load(self):
        gift = letter(1, 0, gift=(0, 0, 5))
        calls = [fc_start(0, 0, 2, kinds(10)), fc_heard(0, gift), fc_heard(0, gift), fc_save(0)]
        octets = ask(*calls)[-1][1:]
        self.assertEqual(
            ask(*calls, fc_load(0, octets), fc_heard(0, gift), fc_load(1, octets), fc_heard(1, gift))[4:],
            [[0], [0], [0], [0]],
        )

    def test_a_gift_that_came_back_with_what_was_kept_is_said_again_and_dropped_again(self):
        calls = [fc_start(0, 0, 2, kinds(10)), fc_give(0, 1, 0, 4), fc_give(0, 1, 0, 3), fc_save(0)]
        octets = ask(*calls)[-1][1:]
        answered = ask(
            *calls,
            fc_heard(0, letter(1, 0, took=2)),
            fc_say(0, 1),
            fc_load(0, octets),
            fc_say(0, 1),
            fc_heard(0, letter(1, 0, took=2)),
            fc_say(0, 1),
            fc_give(0, 1, 0, 1),
        )
        first = [0] + letter(0, 1, gift=(0, 0, 4))
        self.assertEqual(answered[4:], [[0], [0] + letter(0, 1), [0], first, [0], [0] + letter(0, 1), [2]])

    def test_what_is_hauled_is_within_the_rights_or_nothing_of_it_is(self):
        for kind in range(8):
            calls = [fc_start(0, 0, 2, kinds(10)), fc_save(0), fc_haul(0, kinds(10, **{f"k{kind}": 11})), fc_save(0)]
            answered = ask(*calls)
            with self.subTest(kind=kind):
                self.assertEqual(answered[2], [-28])
                self.assertEqual(answered[3], answered[1])

    def test_what_is_known_goes_back_to_what_was_kept_and_comes_again(self):
        start = [fc_start(0, 0, 2, kinds(10)), fc_heard(0, letter(1, 0, caught=kinds(3))), fc_save(0)]
        octets = ask(*start)[-1][1:]
        news = fc_heard(0, letter(1, 0, caught=kinds(8)))
        answered = ask(*start, news, fc_of(0, 1), fc_load(0, octets), fc_of(0, 1), news, fc_of(0, 1))
        self.assertEqual(answered[4::2], [[0] + kinds(8), [0] + kinds(3), [0] + kinds(8)])


if __name__ == "__main__":
    unittest.main()
