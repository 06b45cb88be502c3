"""What the document says always holds, asked of made-up lines by the calls themselves."""

import unittest

from tests.calling import NUMBER_OF, first_answers, read, whole_answers
from tests.lines import LAST_CHANGE, LINES

PLACES = [(bay, level) for level in range(6) for bay in range(8)]


def asked(calls, text):
    """What the calls of text answer behind these ones."""
    return whole_answers(calls + read(text))[len(calls):]


def at_all(name, places):
    return "".join(f"{name} {bay} {level};" for bay, level in places)


def by_place(calls, name, places):
    """What a call answers at each place, without the places where it's refused."""
    told = asked(calls, at_all(name, places)) if places else []
    return {place: numbers for place, numbers in zip(places, told) if numbers[0] >= 0}


def pairs(numbers):
    """The places of an answer that tells how many, then two for each."""
    found = [tuple(numbers[at:at + 2]) for at in range(1, len(numbers), 2)]
    if len(numbers) != 1 + 2 * numbers[0] or len(found) != numbers[0]:
        raise AssertionError(numbers)
    return found


def in_order(places):
    return sorted(places, key=lambda place: (place[1], place[0]))


class Survey:
    """All that the telling calls say of a line's end."""

    def __init__(self, calls):
        self.calls = calls
        self.looks = by_place(calls, "look", PLACES)
        self.places = list(self.looks)
        self.bears = by_place(calls, "bears", self.places)
        self.rooms = by_place(calls, "room", self.places)
        self.heights = by_place(calls, "high", self.places)
        self.cuts = by_place(calls, "cut", self.places)
        self.feet, self.strip, self.loose, self.reached, self.most, self.sums, self.state = asked(
            calls, "feet; strip; loose; reached; most; sums; state")
        persons = range(self.state[5])
        self.persons = asked(calls, "".join(f"where {person};" for person in persons)) if persons else []

    def spot(self, person):
        told = self.persons[person]
        return (told[2], told[3]) if told[0] == 1 else "ground"

    def whole(self):
        return [self.looks, self.bears, self.rooms, self.heights, self.cuts, self.feet, self.strip, self.loose, self.reached,
                self.most, self.sums, self.state, self.persons]


def begun(calls):
    return any(call[0] == 0 and first == 0 for call, first in zip(calls, first_answers(calls)))


# Each line as long as it is, and cut off earlier, where less stands.
CUT = [line[:length] for index, line in enumerate(LINES) for length in (60 + index % 50, 220)]
SURVEYS = [Survey(calls) for calls in CUT if begun(calls)]


class EachFrameStandsOnWhatIsThere(unittest.TestCase):
    def test_below_it_is_what_it_stands_on(self):
        for survey in SURVEYS:
            for (bay, level), look in survey.looks.items():
                if look[0] == 2:
                    self.assertIn((bay - 1, level - 1), survey.looks)
                    self.assertIn((bay + 1, level - 1), survey.looks)
                elif level > 0:
                    self.assertIn((bay, level - 1), survey.looks)

    def test_none_is_too_high(self):
        for survey in SURVEYS:
            for (bay, level), (height,) in survey.heights.items():
                look = survey.looks[(bay, level)]
                self.assertLessEqual(height, survey.state[4])
                under = [(bay - 1, level - 1), (bay + 1, level - 1)] if look[0] == 2 else [(bay, level - 1)]
                expected = 1 + max(survey.heights[place][0] for place in under) if level > 0 else 1
                self.assertEqual(height, 0 if look[1] else expected)

    def test_a_ladder_leads_from_something_up(self):
        for survey in SURVEYS:
            for (bay, level), look in survey.looks.items():
                if look[4] and level > 0:
                    self.assertIn((bay, level - 1), survey.looks)


class NothingEverBearsTooMuch(unittest.TestCase):
    def test_no_frame_bears_more_than_its_most(self):
        for survey in SURVEYS:
            for borne, less in survey.bears.values():
                self.assertGreaterEqual(less, 0)
                self.assertEqual(borne + less, survey.state[3])

    def test_no_ground_bears_more_than_it_may(self):
        for survey in SURVEYS:
            soils = asked(survey.calls, "".join(f"soil {bay} 10000;" for bay in range(survey.state[0])))
            for load, (limit,) in zip(survey.feet[1:], soils):
                self.assertLessEqual(load, limit)

    def test_each_frame_bears_its_own_and_what_it_carries(self):
        for survey in SURVEYS:
            for (bay, level), (borne, less) in survey.bears.items():
                look = survey.looks[(bay, level)]
                total = survey.state[2] + look[2] + look[3]
                for (other, kind, odd) in ((bay, 1, None), (bay - 1, 2, 0), (bay + 1, 2, 1)):
                    place = (other, level + 1)
                    if place in survey.looks and survey.looks[place][0] == kind:
                        carried = survey.bears[place][0]
                        total += carried if kind == 1 else (carried + odd) // 2
                self.assertEqual(borne, total)

    def test_all_weight_comes_to_the_ground_none_of_it_twice(self):
        for survey in SURVEYS:
            own = sum(survey.state[2] + look[2] + look[3] for look in survey.looks.values())
            self.assertEqual(survey.feet[0], own)
            self.assertEqual(survey.sums[5], own)
            self.assertEqual(sum(survey.feet[1:]), own)
            self.assertEqual(len(survey.feet), 1 + survey.state[0])
            for bay in range(survey.state[0]):
                self.assertEqual(survey.feet[1 + bay], survey.bears.get((bay, 0), [0])[0])

    def test_most_is_the_first_of_those_that_bear_most(self):
        for survey in SURVEYS:
            if survey.places:
                heaviest = max(borne for borne, less in survey.bears.values())
                first = in_order(place for place in survey.places if survey.bears[place][0] == heaviest)[0]
                self.assertEqual(survey.most, [heaviest, *first])
            else:
                self.assertEqual(survey.most, [-6])


class WhoeverIsUpCanComeDown(unittest.TestCase):
    def test_persons_are_on_decks_that_are_reached(self):
        for survey in SURVEYS:
            reached = pairs(survey.reached)
            self.assertEqual(reached, in_order(reached))
            for person in range(len(survey.persons)):
                if survey.spot(person) != "ground":
                    self.assertIn(survey.spot(person), reached)
                    self.assertGreater(asked(survey.calls, f"down {person}")[0][0], 0)

    def test_reached_is_where_there_is_a_way_from_the_ground(self):
        for survey in SURVEYS:
            if len(survey.persons) < 8 and survey.places:
                ways = asked(survey.calls, "come 1;" + "".join(f"way {len(survey.persons)} {bay} {level};"
                                                              for bay, level in survey.places))[1:]
                with_way = [place for place, (steps,) in zip(survey.places, ways) if steps > 0]
                self.assertEqual(pairs(survey.reached), in_order(with_way))

    def test_go_answers_what_way_does_and_steps_lead_back(self):
        for survey in SURVEYS:
            for person in range(min(2, len(survey.persons))):
                spot = survey.spot(person)
                back = f"down {person};" if spot == "ground" else f"go {person} {spot[0]} {spot[1]};"
                text = "".join(f"way {person} {bay} {level}; go {person} {bay} {level}; {back}" for bay, level in survey.places)
                told = [numbers[0] for numbers in asked(survey.calls, text)]
                for index, place in enumerate(survey.places):
                    steps, went, came = told[3 * index:3 * index + 3]
                    if place == spot:
                        self.assertEqual((steps, went), (0, -17))
                    elif steps < 0:
                        self.assertEqual((steps, went), (-33, -33))
                    else:
                        self.assertGreater(steps, 0)
                        self.assertIn(went, (steps, -41))
                        self.assertEqual(came, steps if went > 0 else -17)

    def test_cut_tells_those_who_need_the_ladder(self):
        for survey in SURVEYS:
            self.assertEqual(list(survey.cuts), [place for place in survey.places if survey.looks[place][4]])
            for (bay, level), told in survey.cuts.items():
                self.assertEqual(told[0], len(told) - 1)
                self.assertEqual(told[1:], sorted(set(told[1:])))
                self.assertEqual(asked(survey.calls, f"noladder {bay} {level}")[0], [-12] if told[0] else [0])
                # With these few come down first, the ladder may go: nobody else needs it.
                downs = "".join(f"down {person};" for person in told[1:])
                self.assertEqual(asked(survey.calls, downs + f"noladder {bay} {level}")[-1], [0])
                for stays in told[1:]:
                    downs = "".join(f"down {person};" for person in told[1:] if person != stays)
                    self.assertEqual(asked(survey.calls, downs + f"noladder {bay} {level}")[-1], [-12])


class SoMuchMoreMayBePutThere(unittest.TestCase):
    def test_and_one_more_may_not(self):
        for survey in SURVEYS:
            self.assertEqual(list(survey.rooms), survey.places)
            for (bay, level), (room,) in survey.rooms.items():
                self.assertEqual(asked(survey.calls, f"load {bay} {level} {room + 1}"), [[-41]])
                if room > 0:
                    things = survey.looks[(bay, level)][2]
                    self.assertEqual(asked(survey.calls, f"load {bay} {level} {room}; room {bay} {level}; load {bay} {level} 1"),
                                     [[things + room], [0], [-41]])

    def test_more_on_a_deck_never_makes_a_frame_bear_less(self):
        for survey in SURVEYS[::3]:
            for (bay, level), (room,) in survey.rooms.items():
                if room > 0:
                    loaded = by_place(survey.calls + read(f"load {bay} {level} {room // 2 + 1}"), "bears", survey.places)
                    for place, (borne, less) in loaded.items():
                        self.assertGreaterEqual(borne, survey.bears[place][0])


class WhatMayBeTakenAway(unittest.TestCase):
    def test_strip_tells_just_what_take_would_take(self):
        for survey in SURVEYS:
            taken = [place for place in survey.places if asked(survey.calls, at_all("take", [place]))[0][0] >= 0]
            self.assertEqual(pairs(survey.strip), in_order(taken))

    def test_loose_tells_just_what_untie_would_untie(self):
        for survey in SURVEYS:
            untied = [place for place in survey.places if asked(survey.calls, at_all("untie", [place]))[0][0] >= 0]
            self.assertEqual(pairs(survey.loose), in_order(untied))


class TheSums(unittest.TestCase):
    def test_they_are_what_look_and_where_tell_one_by_one(self):
        for survey in SURVEYS:
            looks = survey.looks.values()
            up = [told for told in survey.persons if told[0] == 1]
            self.assertEqual(survey.sums[:5], [len(looks), sum(look[1] for look in looks), sum(look[4] for look in looks),
                                               sum(look[2] for look in looks), len(up)])
            for (bay, level), look in survey.looks.items():
                self.assertEqual(look[3], sum(told[1] for told in up if told[2:] == [bay, level]))
            for told in survey.persons:
                self.assertTrue(told[0] == 1 or told[2:] == [0, 0])


class AllIsAsItWas(unittest.TestCase):
    def test_put_up_and_taken_away(self):
        for survey in SURVEYS[::5]:
            for name in ("put", "span"):
                done = [place for place in PLACES if place not in survey.looks
                        and asked(survey.calls, at_all(name, [place]))[0][0] > 0]
                for place in done[:2]:
                    calls = survey.calls + read(at_all(name, [place]) + at_all("take", [place]))
                    self.assertEqual(first_answers(calls)[-1], len(survey.places))
                    self.assertEqual(Survey(calls).whole(), survey.whole())

    def test_put_up_and_taken_away_on_the_way(self):
        for calls in LINES:
            told = whole_answers(calls)
            built = [index for index, call in enumerate(calls) if call[0] in (2, 3) and told[index][0] > 0]
            for index in built[:12]:
                take = [NUMBER_OF["take"]] + calls[index][1:]
                longer = whole_answers(calls[:index + 1] + [take] + calls[index:])
                self.assertEqual(longer[index + 1], [told[index][0] - 1])
                self.assertEqual(longer[index + 2:], told[index:])

    def test_what_is_refused_changes_nothing(self):
        for calls in LINES:
            told = whole_answers(calls)
            kept = [index for index, numbers in enumerate(told) if numbers[0] >= 0]
            self.assertEqual(whole_answers([calls[index] for index in kept]), [told[index] for index in kept])
            self.assertTrue(all(len(numbers) == 1 for numbers in told if numbers[0] < 0))

    def test_nothing_that_is_answered_behind_the_first_number_is_below_0(self):
        for calls in LINES:
            self.assertTrue(all(number >= 0 for numbers in whole_answers(calls) for number in numbers[1:]))

    def test_what_is_told_changes_nothing(self):
        for calls in LINES:
            told = whole_answers(calls)
            kept = [index for index, call in enumerate(calls) if call[0] <= LAST_CHANGE]
            self.assertEqual(whole_answers([calls[index] for index in kept]), [told[index] for index in kept])

    def test_told_twice_it_is_the_same(self):
        for calls in LINES:
            twice = [call for call in calls for time in range(1 if call[0] <= LAST_CHANGE else 2)]
            told = [numbers for call, numbers in zip(calls, whole_answers(calls))
                    for time in range(1 if call[0] <= LAST_CHANGE else 2)]
            self.assertEqual(whole_answers(twice), told)


if __name__ == "__main__":
    unittest.main()
