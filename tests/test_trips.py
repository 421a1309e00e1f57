"""Point 36: trips through the time of a task."""

import inspect
import unittest

from livestead.errors import TaskError
from livestead.files import load, save
from livestead.images import Image
from livestead.trips import Trip
from tests.living import LivingCase, begun, made, make, state_of, stepped

ROWS = ("class A x", "A method set(a) x := a; give self end", "A method get() give x end",
        "A method block(n) give {m | keep n := n + m; n always h := n end; n} end")
BODY = ("var a, b; a := (new A).set(new A); b := a.block(1); try b.call(2); b.call('t') catch e then g := a end; "
        "keep give {b.call(5)}.call() always a.set(none); new A end")


def told_at(steps, optimized=False):
    """The file of an image that goes so many steps on its own."""
    image = begun(made(*ROWS), BODY, optimized)
    image.advance(steps)
    return save(image)


class TripsCase(LivingCase):
    def setUp(self):
        self.length = stepped(begun(made(*ROWS), BODY), 1000)
        self.files = [told_at(steps) for steps in range(self.length + 1)]

    def begun(self):
        return begun(made(*ROWS), BODY)

    def is_at(self, trip, steps):
        self.same(trip.steps(), steps)
        self.assertEqual(save(trip.here()), self.files[steps])


class Going(TripsCase):
    def test_a_new_trip(self):
        trip = Trip(self.begun())
        self.is_at(trip, 0)
        self.same(trip.here().state(), ("running",))

    def test_by_0(self):
        trip = Trip(self.begun())
        for turn in range(3):
            self.same(trip.going(0), 0)
            self.same(trip.back(0), 0)
            self.is_at(trip, 2 * turn)
            self.same(trip.going(2), 2)

    def test_step_by_step(self):
        trip = Trip(self.begun())
        for steps in range(self.length):
            self.is_at(trip, steps)
            self.same(trip.going(1), 1)
        self.is_at(trip, self.length)
        self.same(trip.going(1), 0)
        for steps in reversed(range(self.length)):
            self.same(trip.back(1), 1)
            self.is_at(trip, steps)
        self.same(trip.back(1), 0)
        self.is_at(trip, 0)

    def test_by_more_than_there_is(self):
        trip = Trip(self.begun())
        self.same(trip.back(5), 0)
        self.is_at(trip, 0)
        self.same(trip.going(3), 3)
        self.same(trip.going(1000), self.length - 3)
        self.is_at(trip, self.length)
        self.same(trip.back(1000), self.length)
        self.is_at(trip, 0)

    def test_to_the_end_and_back_from_there(self):
        trip = Trip(self.begun())
        self.same(trip.going(self.length), self.length)
        self.same(trip.here().state(), ("done", 8))
        self.same(trip.here().depth(), 0)
        self.same(trip.going(5), 0)
        self.same(trip.back(4), 4)
        self.is_at(trip, self.length - 4)
        self.same(trip.here().state(), ("running",))
        self.same(trip.going(3), 3)
        self.same(trip.going(3), 1)
        self.is_at(trip, self.length)

    def test_to_and_fro(self):
        trip = Trip(self.begun())
        steps = 0
        for number in (7, -3, 20, -1, -1, 5, -100, 1, 12, 0, -13, 33, -30, 1000, -2, 1, 1000, -7):
            where = max(0, min(self.length, steps + number))
            if number < 0:
                self.same(trip.back(-number), steps - where)
            else:
                self.same(trip.going(number), where - steps)
            steps = where
            self.is_at(trip, steps)

    def test_optimized(self):
        trip = Trip(begun(made(*ROWS), BODY, True))
        trip.going(30)
        trip.back(11)
        self.assertEqual(save(trip.here()), told_at(19, True))
        self.same(trip.steps(), 19)

    def test_a_task_without_an_end(self):
        trip = Trip(begun(Image(), "n := 0; while true do n := n + 1 end"))
        self.same(trip.going(5000), 5000)
        there = save(trip.here())
        self.same(trip.back(4999), 4999)
        self.same(trip.here().global_values(), {})
        self.same(trip.going(4999), 4999)
        self.assertEqual(save(trip.here()), there)

    def test_garbage_that_is_collected_on_the_way(self):
        rows = ("class A x", "A method f(n) while 0 < n do new A; n := n - 1 end end")
        trip = Trip(begun(made(*rows), "a := new A; a.f(200); b := new A"))
        trip.going(10000)
        there = save(trip.here())
        self.same(trip.here().global_values()["b"], ("object", 202))
        trip.back(1000)
        trip.going(10000)
        self.assertEqual(save(trip.here()), there)


class Beginning(TripsCase):
    def test_no_task_was_started(self):
        self.assertRaises(TaskError, Trip, Image())
        image = made(*ROWS)
        self.assertRaises(TaskError, Trip, image)
        self.assertRaises(TaskError, Trip, load(save(image)))

    def test_a_task_that_could_not_be_started(self):
        image = Image()
        with self.assertRaises(ValueError):
            image.start("method f(a) end")
        self.assertRaises(TaskError, Trip, image)

    def test_in_the_middle_of_a_task(self):
        image = self.begun()
        image.advance(20)
        trip = Trip(image)
        self.same(trip.steps(), 0)
        self.assertEqual(save(trip.here()), self.files[20])
        self.same(trip.back(1), 0)
        self.same(trip.going(5), 5)
        self.same(trip.steps(), 5)
        self.assertEqual(save(trip.here()), self.files[25])
        self.same(trip.back(100), 5)
        self.assertEqual(save(trip.here()), self.files[20])

    def test_at_the_end_of_a_task(self):
        for body, state in (("give 5", ("done", 5)), ("fail new A", ("failed", ("object", 1)))):
            image = made(*ROWS)
            self.same(state_of(image, body), state)
            trip = Trip(image)
            self.same(trip.going(10), 0)
            self.same(trip.back(10), 0)
            self.same(trip.steps(), 0)
            self.same(trip.here().state(), state)

    def test_in_a_loaded_image(self):
        trip = Trip(load(self.files[10]))
        trip.going(20)
        self.assertEqual(save(trip.here()), self.files[30])

    def test_in_an_image_of_another_trip(self):
        first = Trip(self.begun())
        first.going(10)
        second = Trip(first.here())
        second.going(10)
        first.back(5)
        self.assertEqual(save(second.here()), self.files[20])
        self.assertEqual(save(first.here()), self.files[5])
        self.same((first.steps(), second.steps()), (5, 10))

    def test_with_changes_that_were_made_on_the_way(self):
        image = self.begun()
        image.advance(4)
        make(image, "A method block(n) give {n := 0} end")
        make(image, "slot A y")
        image.undo()
        file = save(image)
        trip = Trip(image)
        image.advance(1000)
        there = save(image)
        trip.going(1000)
        self.assertEqual(save(trip.here()), there)
        trip.back(1000)
        self.assertEqual(save(trip.here()), file)
        self.same(trip.here().redo(), 5)


class Apart(TripsCase):
    def test_the_image_that_the_trip_began_with_goes_on(self):
        image = self.begun()
        image.advance(5)
        trip = Trip(image)
        image.advance(1000)
        make(image, "no method A set/1")
        image.put("g", 7)
        image.collect()
        self.assertEqual(save(trip.here()), self.files[5])
        trip.going(10)
        self.assertEqual(save(trip.here()), self.files[15])
        trip.back(15)
        self.assertEqual(save(trip.here()), self.files[5])

    def test_the_trip_leaves_the_image_as_it_was(self):
        image = self.begun()
        image.advance(5)
        trip = Trip(image)
        self.assertEqual(save(image), self.files[5])
        trip.going(20)
        trip.back(3)
        self.assertEqual(save(image), self.files[5])
        image.advance(2)
        self.assertEqual(save(image), self.files[7])

    def test_here_told_twice_and_changed(self):
        trip = Trip(self.begun())
        trip.going(12)
        first, second = trip.here(), trip.here()
        first.advance(10)
        first.put("k", 1)
        first.undo()
        self.assertEqual(save(second), self.files[12])
        second.advance(1)
        make(second, "class B")
        second.collect()
        self.is_at(trip, 12)
        trip.going(1)
        self.is_at(trip, 13)
        trip.back(13)
        self.is_at(trip, 0)

    def test_here_at_the_start_changed(self):
        trip = Trip(self.begun())
        image = trip.here()
        image.advance(30)
        image.put("h", 1)
        image.undo()
        self.is_at(trip, 0)
        trip.going(2)
        trip.back(2)
        self.is_at(trip, 0)

    def test_what_was_told_stays(self):
        trip = Trip(self.begun())
        trip.going(9)
        image = trip.here()
        trip.going(9)
        trip.back(18)
        self.assertEqual(save(image), self.files[9])
        image.advance(1)
        self.assertEqual(save(image), self.files[10])

    def test_two_trips(self):
        image = self.begun()
        first, second = Trip(image), Trip(image)
        first.going(3)
        second.going(8)
        first.going(3)
        self.is_at(first, 6)
        self.is_at(second, 8)


class Form(LivingCase):
    def test_names_and_arguments(self):
        wanted = {"going": "(self, number)", "back": "(self, number)", "steps": "(self)", "here": "(self)"}
        self.same(str(inspect.signature(Trip)), "(image)")
        trip = Trip(image=begun(Image(), "1; 2"))
        for name, arguments in wanted.items():
            self.same(str(inspect.signature(vars(Trip)[name])), arguments)
        self.same({name for name in dir(trip) if not name.startswith("_")} - set(wanted), set())
        self.same((trip.going(number=3), trip.back(number=1), trip.steps()), (3, 1, 2))
        self.assertIsInstance(trip.here(), Image)


if __name__ == "__main__":
    unittest.main()
