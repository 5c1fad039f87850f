import unittest

from mixedbags.reports import persons_of, places_of, reports_by, reports_of
from tests.support import HISTORY, PERSONS, random_history, reports_in, same

ALL_KINDS = (
    (("a", 0), ("b", None)),
    (("mix", "zed", ("a", "b")), ("new", "a", 1), ("look", "cy", "b", 1), ("pour", "ann", ("a",), 0),
     ("look", "cy", "a", 0), ("mix", "bob", ("a", "b"))),
)


class ReportsTest(unittest.TestCase):
    def test_examples(self):
        self.assertEqual(places_of(HISTORY), ("a", "b", "c", "d"))
        self.assertEqual(persons_of(HISTORY), ("ann", "bob", "cy"))
        self.assertEqual(reports_of(HISTORY), (2, 3))
        self.assertEqual(reports_by(HISTORY, ("ann", "cy")), (2, 3))

    def test_all_kinds_of_events(self):
        self.assertEqual(persons_of(ALL_KINDS), ("ann", "bob", "cy", "zed"))
        self.assertEqual(reports_of(ALL_KINDS), (2, 3, 4))
        self.assertEqual(reports_by(ALL_KINDS, ("cy",)), (2, 4))
        self.assertEqual(reports_by(ALL_KINDS, ("ann", "bob", "zed")), (3,))
        self.assertEqual(reports_by(ALL_KINDS, ("a", "bob", "nobody", "zed")), ())
        self.assertEqual(reports_by(ALL_KINDS, ()), ())

    def test_a_place_of_a_new_is_no_person(self):
        self.assertEqual(persons_of(((("a", 1),), (("new", "a", 1),))), ())

    def test_without_events(self):
        history = ((("a", 1), ("c", None)), ())
        self.assertEqual(places_of(history), ("a", "c"))
        self.assertEqual(persons_of(history), ())
        self.assertEqual(reports_of(history), ())
        self.assertEqual(reports_by(history, ("ann",)), ())

    def test_random_histories(self):
        for seed in range(200):
            history = random_history(seed, 1 + seed % 7, seed % 15)
            persons = {event[1] for event in history[1] if event[0] != "new"}
            self.assertTrue(same(places_of(history), tuple(name for name, _ in history[0])))
            self.assertTrue(same(persons_of(history), tuple(sorted(persons))))
            self.assertTrue(same(reports_of(history), reports_in(history)))
            for person in PERSONS:
                by_person = tuple(at for at in reports_in(history) if history[1][at][1] == person)
                self.assertTrue(same(reports_by(history, (person,)), by_person))
            self.assertEqual(reports_by(history, PERSONS), reports_in(history))

    def test_arguments_by_name(self):
        self.assertEqual(places_of(history=HISTORY), places_of(HISTORY))
        self.assertEqual(persons_of(history=HISTORY), persons_of(HISTORY))
        self.assertEqual(reports_of(history=HISTORY), reports_of(HISTORY))
        self.assertEqual(reports_by(persons=("cy",), history=HISTORY), (2, 3))


if __name__ == "__main__":
    unittest.main()
