"""Points 62, 63 and 64: maps, images of places, and the search for maps and twins."""

import copy
import random
import unittest
from itertools import product

from mingle.compiling import compile_text
from mingle.errors import TooLarge
from mingle.maps import find_map, find_twin_map, image_of, is_map
from mingle.merging import classes, merged, renamed
from mingle.protocols import Rulebook
from samples import drawn_protocol, majority, names, pair, plain

EMPTY = Rulebook([], [], [], [], [])
FIRST = Rulebook(["a", "b", "c"], [("x", "a")], [], [("a", "a", "b", "c")], [1, 0, 0])
SECOND = Rulebook(["z", "x"], [("x", "x")], [], [("x", "x", "z", "z")], [0, 1])


class Tries:
    """The search of point 64 as it is told, which counts how often an image is given."""

    def __init__(self, first, second, twins):
        self.first, self.second, self.twins = first, second, twins
        self.many = 0

    def breaks(self, images):
        first, second = self.first, self.second
        state, image = len(images) - 1, images[-1]
        if first.outputs[state] != second.outputs[image]:
            return True
        for (_, known), (_, wanted) in zip(first.inputs, second.inputs):
            if first.states.index(known) == state and second.states.index(wanted) != image:
                return True
        if self.twins and image in images[:-1]:
            return True
        for one, other in product(range(len(images)), repeat=2):
            for result, must in zip(first.meet(one, other), second.meet(images[one], images[other])):
                if result < len(images) and images[result] != must:
                    return True
        return False

    def ends_well(self, images):
        leaders = sorted([images[self.first.number(state)] for state in self.first.leaders])
        if self.twins and sorted(images) != list(range(len(self.second))):
            return False
        return leaders == sorted([self.second.number(state) for state in self.second.leaders])

    def go_on(self, images):
        if len(images) == len(self.first):
            return tuple(images) if self.ends_well(images) else None
        for image in range(len(self.second)):
            self.many += 1
            if not self.breaks([*images, image]):
                found = self.go_on([*images, image])
                if found is not None:
                    return found
        return None

    def find(self):
        if [name for name, _ in self.first.inputs] != [name for name, _ in self.second.inputs]:
            return None
        return self.go_on([])


def naive_is_map(first, second, images):
    if min(images, default=0) < 0 or max(images, default=-1) >= len(second):
        return False
    carried = [(name, second.states[images[first.number(state)]]) for name, state in first.inputs]
    return (
        all(tuple([images[state] for state in first.meet(*states)]) == second.meet(*[images[state] for state in states])
            for states in product(range(len(first)), repeat=2))
        and all(first.outputs[state] == second.outputs[images[state]] for state in range(len(first)))
        and carried == list(second.inputs)
        and sorted([second.states[images[first.number(state)]] for state in first.leaders]) == sorted(second.leaders)
    )


def copied(draw, protocol, many):
    """A protocol with so many states more than the other one has, and a map to it."""
    size = len(protocol)
    images = list(range(size)) + [draw.randrange(size) for _ in range(many)]
    draw.shuffle(images)
    behind = {image: [state for state, other in enumerate(images) if other == image] for image in range(size)}
    states = [f"t{number}" for number in range(len(images))]
    rules = []
    for first, second in product(range(len(images)), repeat=2):
        third, fourth = protocol.meet(images[first], images[second])
        if (third, fourth) != (images[first], images[second]):
            results = (draw.choice(behind[third]), draw.choice(behind[fourth]))
            rules.append(tuple([states[state] for state in (first, second, *results)]))
    inputs = [(name, states[draw.choice(behind[protocol.number(state)])]) for name, state in protocol.inputs]
    leaders = [states[draw.choice(behind[protocol.number(state)])] for state in protocol.leaders]
    draw.shuffle(leaders)
    outputs = [protocol.outputs[image] for image in images]
    return Rulebook(states, inputs, leaders, rules, outputs), tuple(images)


def drawn_small(draw):
    """A protocol with few states, inputs, leaders, rules and outputs."""
    states = names(draw.randint(1, 3))
    rules = {}
    for _ in range(draw.randint(0, 2)):
        rules[draw.choice(states), draw.choice(states)] = (draw.choice(states), draw.choice(states))
    inputs = [(name, draw.choice(states)) for name in draw.choice([["x"], ["x", "y"], []])]
    leaders = draw.choices(states, k=draw.randint(0, 2))
    outputs = [draw.randint(0, 1) if draw.random() < 0.3 else 0 for _ in states]
    return Rulebook(states, inputs, leaders, [first + second for first, second in rules.items()], outputs)


class IsMapTest(unittest.TestCase):
    def maps(self, first, second, images, expected):
        self.assertIs(is_map(first, second, images), expected)
        self.assertIs(naive_is_map(first, second, images), expected)

    def test_one_map(self):
        for images in product(range(2), repeat=3):
            self.maps(FIRST, SECOND, images, images == (1, 0, 0))

    def test_images_out_of_range(self):
        for images in [(1, 0, -1), (1, 0, 2), (-1, 0, 0), (3, 0, 0), (1, -2, 0), (1, 0, 10 ** 29), (-10 ** 29, 0, 0)]:
            self.maps(FIRST, SECOND, images, False)
        # Read from the right, these would be the images of the map.
        self.maps(FIRST, SECOND, (-1, -2, -2), False)

    def test_a_result(self):
        first = plain("abcd", ["abcd"])
        self.maps(first, plain("abcd", ["abcd"]), (0, 1, 2, 3), True)
        for rules in [[], ["abcc"], ["abdd"], ["abdc"], ["abcd", "bacd"], ["abcd", "aabb"], ["abcd", "ddcc"], ["bacd"]]:
            self.maps(first, plain("abcd", rules), (0, 1, 2, 3), False)
            self.maps(plain("abcd", rules), first, (0, 1, 2, 3), False)

    def test_rules_that_change_nothing(self):
        self.maps(plain("ab", ["abab"]), plain("ab"), (0, 1), True)
        self.maps(plain("ab"), plain("ab", ["abab", "bbbb"]), (0, 1), True)
        # The states of the two agents are exchanged, which their images cannot show.
        self.maps(plain("ab", ["abba"]), plain("a"), (0, 0), True)
        self.maps(plain("ab", ["abba"]), plain("ab"), (0, 1), False)

    def test_an_output(self):
        first = Rulebook(["a", "b"], [], [], [], [3, 5])
        self.maps(first, Rulebook(["a", "b"], [], [], [], [3, 5]), (0, 1), True)
        self.maps(first, Rulebook(["a", "b"], [], [], [], [3, 4]), (0, 1), False)
        self.maps(first, Rulebook(["a", "b"], [], [], [], [2, 5]), (0, 1), False)
        self.maps(first, Rulebook(["a", "b"], [], [], [], [5, 3]), (0, 1), False)
        self.maps(first, Rulebook(["a", "b"], [], [], [], [5, 3]), (1, 0), True)

    def test_inputs(self):
        first = Rulebook(["a", "b"], [("x", "a"), ("y", "b")], [], [], [0, 0])
        for inputs, expected in [([("x", "a"), ("y", "b")], True), ([("z", "a"), ("y", "b")], False),
                                 ([("x", "a"), ("z", "b")], False), ([("y", "b"), ("x", "a")], False),
                                 ([("y", "a"), ("x", "b")], False), ([("x", "b"), ("y", "b")], False),
                                 ([("x", "a"), ("y", "a")], False), ([("x", "a")], False), ([], False),
                                 ([("x", "a"), ("y", "b"), ("z", "b")], False)]:
            self.maps(first, Rulebook(["a", "b"], inputs, [], [], [0, 0]), (0, 1), expected)

    def test_leaders(self):
        def with_leaders(leaders):
            return Rulebook(["a", "b"], [], leaders, [], [0, 0])

        first = with_leaders(["a", "b", "b"])
        for leaders, expected in [("abb", True), ("bab", True), ("bba", True), ("aab", False), ("bbb", False),
                                  ("bb", False), ("ab", False), ("abbb", False), ("", False), ("aabb", False)]:
            self.maps(first, with_leaders(list(leaders)), (0, 1), expected)
        self.maps(first, with_leaders(["a", "a", "b"]), (1, 0), True)
        self.maps(first, with_leaders(["a", "a", "a"]), (0, 0), True)

    def test_no_states(self):
        self.maps(EMPTY, EMPTY, (), True)
        self.maps(EMPTY, plain("ab"), (), False)
        self.maps(EMPTY, Rulebook(["a"], [], [], [("a", "a", "a", "a")], [1]), (), True)
        self.maps(EMPTY, Rulebook(["a"], [], ["a"], [], [1]), (), False)

    def test_itself(self):
        for protocol in [pair(), majority(), drawn_protocol(1, 6), compile_text("x >= 2")]:
            self.maps(protocol, protocol, tuple(range(len(protocol))), True)

    def test_copies(self):
        draw = random.Random(1)
        for seed in range(40):
            second = drawn_protocol(seed, 1 + seed % 4)
            first, images = copied(draw, second, seed % 3)
            self.maps(first, second, images, True)
            for at in range(len(images)):
                for image in range(-1, len(second) + 1):
                    other = (*images[:at], image, *images[at + 1:])
                    self.maps(first, second, other, naive_is_map(first, second, other))

    def test_drawn_protocols(self):
        draw = random.Random(2)
        told = []
        for _ in range(400):
            first, second = drawn_small(draw), drawn_small(draw)
            for images in product(range(len(second)), repeat=len(first)):
                expected = naive_is_map(first, second, images)
                self.maps(first, second, images, expected)
                told.append(expected)
        self.assertGreater(told.count(True), 20)


class ImageTest(unittest.TestCase):
    def test_places(self):
        self.assertEqual(image_of((), (), 0), ())
        self.assertEqual(image_of((), (), 3), (0, 0, 0))
        self.assertEqual(image_of((5, 2, 1), (1, 0, 0), 2), (3, 5))
        self.assertEqual(image_of((5, 2, 1), (2, 2, 2), 4), (0, 0, 8, 0))
        self.assertEqual(image_of((5, 2, 1), (2, 0, 1), 3), (2, 1, 5))
        self.assertEqual(image_of((10 ** 29, 0, 1), (0, 1, 0), 2), (10 ** 29 + 1, 0))

    def test_first_places(self):
        draw = random.Random(3)
        for seed in range(20):
            second = Rulebook(names(3), [("x", "s0"), ("y", "s2")], ["s1", "s0"], [], [0, 1, 0])
            first, images = copied(draw, second, seed % 4)
            for counts in product(range(3), repeat=2):
                place = first.first_place(list(counts))
                self.assertEqual(image_of(place, images, 3), second.first_place(list(counts)))


class FindTest(unittest.TestCase):
    def found(self, first, second, expected, *, twins=False):
        """The search finds what is expected, with exactly as many tries as point 64 tells."""
        find = find_twin_map if twins else find_map
        tries = Tries(first, second, twins)
        self.assertEqual(tries.find(), expected)
        self.assertEqual(find(first, second, limit=max(1, tries.many)), expected)
        self.assertEqual(find(first, second, limit=tries.many), expected)
        for limit in {tries.many - 1, tries.many // 2, 1, 0}:
            if 0 <= limit < tries.many:
                with self.assertRaises(TooLarge) as caught:
                    find(first, second, limit=limit)
                self.assertEqual(caught.exception.limit, limit)
        return tries.many

    def test_document(self):
        # a: 0 and 1; b: 0; c: 0.
        self.assertEqual(self.found(FIRST, SECOND, (1, 0, 0)), 4)
        self.assertEqual(find_map(FIRST, SECOND), (1, 0, 0))

    def test_the_first_map_of_several(self):
        self.assertEqual(self.found(plain("a"), plain("a"), (0,)), 1)
        protocol = Rulebook(["a", "b"], [], [], [], [0, 0])
        self.assertEqual(self.found(protocol, protocol, (0, 0)), 2)
        self.found(protocol, protocol, (0, 1), twins=True)
        second = Rulebook(["a", "b", "c"], [], [], [("a", "a", "b", "b")], [0, 0, 0])
        self.found(protocol, second, (1, 1))

    def test_an_image_that_is_given_up_later(self):
        # With a and b at 0 nothing is broken before c must be at 1, where b would have to be at 2.
        first = Rulebook(list("abc"), [], [], [("a", "b", "c", "c")], [0, 0, 1])
        second = Rulebook(list("abcd"), [], [], [("b", "c", "d", "d")], [0, 0, 0, 1])
        self.found(first, second, (1, 2, 3))

    def test_none(self):
        self.found(FIRST, Rulebook(["z"], [("x", "z")], [], [], [1]), None)
        self.found(SECOND, FIRST, None)
        self.found(plain("ab"), plain("ab", ["aaaa", "abbb"]), (0, 0))
        self.found(plain("a"), plain("ab", ["aabb"]), None)

    def test_inputs_with_other_names(self):
        second = Rulebook(["a"], [("y", "a")], [], [], [0])
        for other in [second, EMPTY, Rulebook(["a"], [("x", "a"), ("y", "a")], [], [], [0])]:
            self.assertEqual(self.found(plain("a"), other, None), 0)
            self.assertEqual(self.found(other, plain("a"), None), 0)
            self.assertEqual(self.found(other, plain("a"), None, twins=True), 0)
        swapped = Rulebook(["a"], [("y", "a"), ("x", "a")], [], [], [0])
        self.assertEqual(self.found(swapped, Rulebook(["a"], [("x", "a"), ("y", "a")], [], [], [0]), None), 0)

    def test_states_of_inputs(self):
        first = Rulebook(["a", "b"], [("x", "b")], [], [], [0, 0])
        second = Rulebook(["a", "b", "c"], [("x", "c")], [], [], [0, 0, 0])
        self.assertEqual(self.found(first, second, (0, 2)), 4)
        # Both inputs begin in the same state, but have other images.
        first = Rulebook(["a"], [("x", "a"), ("y", "a")], [], [], [0])
        second = Rulebook(["a", "b"], [("x", "a"), ("y", "b")], [], [], [0, 0])
        self.assertEqual(self.found(first, second, None), 2)
        self.found(second, first, (0, 0))

    def test_no_states(self):
        self.assertEqual(self.found(EMPTY, EMPTY, ()), 0)
        self.assertEqual(self.found(EMPTY, EMPTY, (), twins=True), 0)
        other = Rulebook(["a"], [], [], [], [0])
        self.assertEqual(self.found(EMPTY, other, ()), 0)
        self.assertEqual(self.found(EMPTY, other, None, twins=True), 0)
        self.assertEqual(self.found(other, EMPTY, None), 0)
        self.assertEqual(self.found(EMPTY, Rulebook(["a"], [], ["a"], [], [0]), None), 0)

    def test_leaders_that_are_wrong_only_at_the_end(self):
        first = Rulebook(["a", "b"], [], ["b", "a"], [], [0, 0])
        second = Rulebook(["a", "b", "c"], [], ["c", "b"], [], [0, 0, 0])
        self.found(first, second, (1, 2))
        self.found(first, Rulebook(["a", "b"], [], ["a", "b"], [], [0, 0]), (0, 1))
        self.found(first, Rulebook(["a", "b"], [], ["b", "b"], [], [0, 0]), (1, 1))
        self.assertEqual(self.found(first, Rulebook(["a", "b"], [], ["b"], [], [0, 0]), None), 6)
        self.assertEqual(self.found(first, Rulebook(["a", "b"], [], [], [], [0, 0]), None), 6)
        self.found(first, Rulebook(["a", "b"], [], ["b", "b"], [], [0, 0]), None, twins=True)

    def test_twins(self):
        other = Rulebook(["c", "a", "b"], [("x", "b")], [], [("b", "b", "c", "a")], [0, 0, 1])
        self.found(FIRST, other, (2, 0, 1), twins=True)
        self.found(FIRST, FIRST, (0, 1, 2), twins=True)
        self.found(other, FIRST, (1, 2, 0), twins=True)

    def test_a_map_but_no_twin_map(self):
        self.found(FIRST, SECOND, None, twins=True)
        self.found(plain("ab"), plain("a"), (0, 0))
        self.found(plain("ab"), plain("a"), None, twins=True)
        self.found(plain("a"), plain("ab"), (0,))
        self.found(plain("a"), plain("ab"), None, twins=True)
        first = Rulebook(["a", "b"], [], [], [], [0, 0])
        self.assertEqual(self.found(first, Rulebook(["a", "b", "c"], [], [], [], [0, 0, 0]), None, twins=True), 12)

    def test_merged_protocols(self):
        for text in ["x = 1 mod 3", "x >= 3", "x + -1 * y >= 1", "x = 0 mod 2 and x >= 2"]:
            protocol = compile_text(text)
            small = merged(protocol)
            kinds = {state: number for number, members in enumerate(classes(protocol)) for state in members}
            images = tuple([kinds[state] for state in range(len(protocol))])
            self.assertIs(is_map(protocol, small, images), True)
            found = find_map(protocol, small)
            self.assertLessEqual(found, images)
            self.assertIs(is_map(protocol, small, found), True)
            if len(small) < len(protocol):
                self.assertIsNone(find_twin_map(protocol, small, limit=10 ** 6))

    def test_copies(self):
        draw = random.Random(4)
        for seed in range(40):
            second = drawn_protocol(seed, 1 + seed % 5)
            first, images = copied(draw, second, seed % 3)
            found = find_map(first, second)
            self.assertLessEqual(found, images)
            self.found(first, second, found)
            self.assertIs(naive_is_map(first, second, found), True)
            twin = find_twin_map(first, second)
            self.found(first, second, twin, twins=True)
            self.assertEqual(twin is None, seed % 3 > 0)

    def test_drawn_protocols(self):
        draw = random.Random(5)
        told = []
        for _ in range(500):
            first, second = drawn_small(draw), drawn_small(draw)
            all_maps = [images for images in product(range(len(second)), repeat=len(first))
                        if naive_is_map(first, second, images)]
            self.found(first, second, all_maps[0] if all_maps else None)
            twins = [images for images in all_maps if sorted(images) == list(range(len(second)))]
            self.found(first, second, twins[0] if twins else None, twins=True)
            told.append((len(all_maps) > 0, len(twins) > 0))
        self.assertEqual(set(told), {(False, False), (True, False), (True, True)})

    def test_the_greatest_limit(self):
        many = Rulebook(names(6), [], ["s0"], [], [0] * 6)
        none = Rulebook(names(6), [], [], [], [0] * 6)
        for find in [find_map, find_twin_map]:
            with self.assertRaises(TooLarge) as caught:
                find(many, none, limit=1000)
            self.assertEqual(caught.exception.limit, 1000)
        with self.assertRaises(TooLarge) as caught:
            find_map(many, none)
        self.assertEqual(caught.exception.limit, 10000)
        seven = [Rulebook(names(7), [], leaders, [], [0] * 7) for leaders in [["s0"], []]]
        with self.assertRaises(TooLarge) as caught:
            find_twin_map(*seven)
        self.assertEqual(caught.exception.limit, 10000)

    def test_400_states(self):
        states = names(400)
        protocol = Rulebook(states, [("x", "s399")], [], [], [0] * 399 + [1])
        self.assertEqual(find_map(protocol, Rulebook(["a", "b"], [("x", "b")], [], [], [0, 1])), tuple([0] * 399 + [1]))
        small = Rulebook(states[:150], [], [], [], [0] * 150)
        self.assertEqual(find_twin_map(small, small, limit=10 ** 29), tuple(range(150)))

    def test_protocols_stay_as_they_are(self):
        first, second = drawn_protocol(1, 3), drawn_protocol(2, 3)
        before = copy.deepcopy([first, second])
        find_map(first, second)
        find_twin_map(first, renamed(first, ["a", "b", "c"]))
        is_map(first, second, (0, 1, 2))
        self.assertEqual([first, second], before)


if __name__ == "__main__":
    unittest.main()
