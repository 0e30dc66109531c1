"""Maps, which make one protocol an image of another one."""

from mingle.errors import TooLarge

MOST_TRIES = 10000


def _carries(first, second, images, pairs):
    """True if the results of the meetings of these states are carried to those of the meetings of their images.

    The images are those of the first states; a result that has no image yet is not looked at.
    """
    for state, other in pairs:
        wanted = second.meet(images[state], images[other])
        for result, image in zip(first.meet(state, other), wanted):
            if result < len(images) and images[result] != image:
                return False
    return True


def _have_same_names(first, second):
    """True if the inputs have the same names in the same order."""
    return [name for name, _ in first.inputs] == [name for name, _ in second.inputs]


def _input_images(first, second):
    """For each input the pair of its state and the image that this must have."""
    return [(first.number(state), second.number(image)) for (_, state), (_, image) in zip(first.inputs, second.inputs)]


def _are_leaders(first, second, images):
    """True if the images of the leaders are the leaders of the second protocol, up to their order."""
    found = [images[first.number(state)] for state in first.leaders]
    return sorted(found) == sorted([second.number(state) for state in second.leaders])


def is_map(first, second, images):
    """True if the images of the states are a map from the first protocol to the second one (point 62)."""
    if not all([0 <= image < len(second) for image in images]):
        return False
    states = range(len(first))
    return (
        list(first.outputs) == [second.outputs[image] for image in images]
        and _have_same_names(first, second)
        and all([images[state] == image for state, image in _input_images(first, second)])
        and _are_leaders(first, second, images)
        and _carries(first, second, images, [(state, other) for state in states for other in states])
    )


def image_of(place, images, count):
    """The image of a place, for a second protocol with so many states."""
    counts = [0] * count
    for agents, image in zip(place, images):
        counts[image] += agents
    return tuple(counts)


def _late_pairs(protocol):
    """For each state the pairs of states before it that have it as a result."""
    rows = [[] for _ in protocol.states]
    for rule in protocol.rules:
        first, second, third, fourth = [protocol.number(name) for name in rule]
        for result in (third, fourth):
            if result > max(first, second):
                rows[result].append((first, second))
    return rows


class Trial:
    """Images that are given to the states of a protocol in their order, and break nothing (point 64)."""

    def __init__(self, first, second, *, twins):
        self._first = first
        self._second = second
        self._twins = twins
        self._fixed = _input_images(first, second)
        self._late = _late_pairs(first)
        self.images = []

    def is_full(self):
        """True if all states have images."""
        return len(self.images) == len(self._first)

    def is_done(self):
        """True if all states have images, and they are what is sought."""
        if not self.is_full() or not _are_leaders(self._first, self._second, self.images):
            return False
        # Images of twins are different. So as many of them as there are states are all of these.
        return not self._twins or len(self.images) == len(self._second)

    def give(self, image):
        """Gives an image to the next state if that breaks nothing, and tells whether it does so."""
        state = len(self.images)
        if self._first.outputs[state] != self._second.outputs[image]:
            return False
        if not all([image == wanted for known, wanted in self._fixed if known == state]):
            return False
        if self._twins and image in self.images:
            return False
        self.images.append(image)
        if self._carries_last():
            return True
        self.images.pop()
        return False

    def _carries_last(self):
        """True if the image that was given last breaks no meeting."""
        last = len(self.images) - 1
        pairs = [(last, other) for other in range(last)] + [(other, last) for other in range(last + 1)]
        return _carries(self._first, self._second, self.images, pairs + self._late[last])

    def take_back(self):
        """Takes away the image that was given last, and returns it."""
        return self.images.pop()


def _first_map(first, second, limit, twins):
    """The first map of point 64, or None. Raises TooLarge."""
    if not _have_same_names(first, second):
        return None
    trial = Trial(first, second, twins=twins)
    tries = 0
    image = 0
    while not trial.is_done():
        if trial.is_full() or image == len(second):
            if not trial.images:
                return None
            image = trial.take_back() + 1
        elif tries == limit:
            raise TooLarge(limit)
        else:
            tries += 1
            image = 0 if trial.give(image) else image + 1
    return tuple(trial.images)


def find_map(first, second, *, limit=MOST_TRIES):
    """The first map from one protocol to another one, or None (point 64). Raises TooLarge."""
    return _first_map(first, second, limit, False)


def find_twin_map(first, second, *, limit=MOST_TRIES):
    """The first map that is one to one and reaches all states, or None (point 64). Raises TooLarge."""
    return _first_map(first, second, limit, True)
