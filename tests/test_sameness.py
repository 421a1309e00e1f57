"""Points 2 and 20: whatever the machine is made to do on the way, a body comes to the same."""

import unittest

from livestead.errors import ChangeRefused
from livestead.files import load, save
from livestead.images import Image
from livestead.meaning import mean
from livestead.trips import Trip
from tests.living import PLENTY, LivingCase, begun, made, state_of, stepped
from tests.living_trees import Writer, reached, reached_by

MOST_STEPS = 300


def collected(image, _turn):
    image.collect()
    return image


def loaded(image, _turn):
    return load(save(image))


def changed(image, turn):
    """Changes that are made and undone between two steps, as far as there are less than 60."""
    rows = (("slot", "A", "x"), ("class", "D", "B", ("a", "b")), ("method", "A", "method m() give 77 end"),
            ("no method", "B", "m/0"), ("no slot", "A", "s"), ("no class", "C"))
    try:
        image.make(rows[turn % len(rows)])
    except ChangeRefused:
        if image.changes()[-1][1]:
            image.undo()
            image.redo()
    else:
        image.undo()
    return image


def travelled(image, turn):
    """Forward and back again to where it was, on several ways."""
    trip = Trip(image)
    for number in (turn % 5, 1, turn % 7):
        trip.going(number)
        trip.back(turn % 3)
    trip.going(9)
    trip.back(trip.steps())
    return trip.here()


def mixed(image, turn):
    """All of these ways, one after the other."""
    for way in (loaded, collected, travelled, changed)[turn % 4:]:
        image = way(image, turn)
    return image


def looked(image, _turn):
    """Nothing that is asked for changes anything."""
    for number in image.objects():
        image.look(number)
    for name in image.classes():
        image.slots_of(name)
        for selector in image.selectors_of(name):
            image.text_of(name, selector)
    image.global_values().clear()
    image.changes().clear()
    mean(image, "method f() var n; n := 0; while n < 70 do a := new A; b := {a}; n := n + 1 end end", 300)
    save(image)
    image.advance(0)
    return image


class Ways(LivingCase):
    def gone(self, image, text, optimized, portion, between=None):
        """The image at the end of a task; None if it does not end, or if the memory may run out."""
        image.start(text, optimized=optimized)
        steps = turn = 0
        while image.state() == ("running",) and steps < MOST_STEPS:
            steps += image.advance(portion)
            turn += 1
            if between is not None:
                image = between(image, turn)
        if image.state() == ("running",):
            return None
        return image

    def made_tasks(self, many):
        """Files of images, each with the text of a task that ends in it and needs few objects."""
        for seed in range(many):
            writer = Writer(seed)
            file, text = save(writer.image()), writer.method("run", 0, 8)
            image = self.gone(load(file), text, False, 100)
            if image is not None and len(image.objects()) < 50:
                yield seed, file, text, image

    def ways(self, many, between):
        good = 0
        for seed, file, text, image in self.made_tasks(many):
            wanted = reached(image)
            for optimized in (False, True):
                found = self.gone(load(file), text, optimized, 1 + seed % 4, between)
                self.assertEqual(reached(found), wanted, (seed, text))
            good += 1
        self.assertGreater(good, many // 2)

    def test_optimized_or_plain_in_portions(self):
        self.ways(100, None)

    def test_garbage_is_collected(self):
        self.ways(50, collected)

    def test_saved_and_loaded(self):
        self.ways(15, loaded)

    def test_changes_made_and_undone(self):
        self.ways(50, changed)

    def test_gone_back_and_forward(self):
        self.ways(15, travelled)

    def test_all_ways_together(self):
        self.ways(15, mixed)

    def test_what_the_text_means(self):
        good = 0
        for seed, file, text, image in self.made_tasks(120):
            given = load(file)
            outcome, after = mean(given, text, PLENTY)
            self.assertEqual(reached_by(outcome, after), reached(image), (seed, text))
            self.assertEqual(save(given), file)
            good += 1
        self.assertGreater(good, 60)

    def test_what_the_text_means_in_the_middle_of_a_task(self):
        for seed, file, text, _ in self.made_tasks(20):
            given = load(file)
            given.start(text)
            given.advance(5 + seed % 9)
            alone, other = load(save(given)), Writer(500 + seed).method("run", 0, 7)
            outcome, after = mean(given, other, 1000)
            self.assertEqual(save(given), save(alone))
            alone.advance(PLENTY)
            given.advance(PLENTY)
            self.assertEqual(save(given), save(alone))
            if after is not None:
                self.assertEqual(after.state(), ("none",))
                self.assertEqual(reached_by(outcome, load(save(after))), reached_by(outcome, after))

    def test_asked_for_all_that_can_be_told(self):
        self.ways(10, looked)

    def test_one_task_after_the_other(self):
        for seed in range(20):
            writer = Writer(1000 + seed)
            images = [load(save(writer.image()))]
            images.append(load(save(images[0])))
            meant = load(save(images[0]))
            for turn in range(3):
                text = writer.method("run", 0, 7)
                images[0] = self.gone(images[0], text, False, 100)
                images[1] = self.gone(images[1], text, True, 3, collected if turn % 2 else loaded)
                if None in images or len(images[0].objects()) > 40:
                    break
                self.assertEqual(reached(images[0]), reached(images[1]), (seed, text))
                outcome, meant = mean(meant, text, PLENTY)
                self.assertEqual(reached_by(outcome, meant), reached(images[0]), (seed, text))


class Fewer(LivingCase):
    def test_optimized_code_needs_no_more_steps(self):
        fewer = 0
        for seed in range(60):
            writer = Writer(seed)
            file, text = save(writer.image()), writer.method("run", 0, 8)
            steps = []
            for optimized in (False, True):
                image = load(file)
                image.start(text, optimized=optimized)
                steps.append(image.advance(MOST_STEPS))
            self.assertLessEqual(steps[1], steps[0], text)
            fewer += steps[1] < steps[0]
        self.assertGreater(fewer, 20)

    def test_changes_come_in_the_same_order(self):
        rows = ("class A x", "A method f(a) if true and not false then x := a + 1 * 1 end; g := x; self; "
                             "give {x := x + (1 + 1); h := x; -5}.call() end")
        body = "var a; a := new A; i := a; 1 + 1; a.f(2); while 1 < 2 do give a.f(3 * 3) end"
        told = []
        for optimized in (False, True):
            image = begun(made(*rows), body, optimized)
            states = []
            while image.advance(1):
                state = (image.global_values(), [image.look(number) for number in image.objects()])
                if state not in states:
                    states.append(state)
            told.append((states, image.state()))
        self.same(told[0], told[1])
        self.assertGreater(len(told[0][0]), 8)

    def test_out_of_steps_out_of_depth(self):
        image = begun(Image(), "while true do 1 end", True)
        self.same(image.advance(500), 500)
        self.same(state_of(made("class A", "A method f() self.f() end"), "(new A).f()", True),
                  ("failed", "too deep"))

    def test_stepped_to_the_end(self):
        image = begun(Image(), "1 + 1; give 1 + 1", True)
        self.same(stepped(image, 1), 2)


if __name__ == "__main__":
    unittest.main()
