"""The search for the first harmful delivery."""

from latecoming.courses import Course
from latecoming.deliveries import Network
from latecoming.errors import TooLarge

MOST_WAITING = 6
MOST_KEPT = 1000


def first_harm(case, delays):
    """Returns the first harmful delivery, a list of events, or None."""
    return Search(Network(Course(case), delays)).harmful_delivery()


def kept_scenes(case, delays):
    """Returns the scenes of all deliveries that the search keeps until it ends, in order."""
    search = Search(Network(Course(case), delays))
    search.ends_with_harm()
    return search.scenes


class Search:
    """The deliveries that a search has kept, in their order, and their scenes.

    It searches any network that tells what may happen in a scene, where it leads, and what waits there.
    """

    def __init__(self, network):
        self.network = network
        self.scenes = []
        self.deliveries = []
        self.seen = {}

    def harmful_delivery(self):
        """Searches, and returns the first harmful delivery, or None."""
        if not self.ends_with_harm():
            return None
        return self.deliveries[-1]

    def ends_with_harm(self):
        """Searches, and tells whether the last delivery that was kept is a harmful one."""
        self.keep(self.network.first_scene(), [])
        at = 0
        while at < len(self.scenes):
            if self.extend_kept(at):
                return True
            at += 1
        return False

    def extend_kept(self, at):
        """Adds each possible event to a kept delivery, and tells whether one led to harm."""
        scene, delivery = self.scenes[at], self.deliveries[at]
        events = self.network.events_in(scene)
        for event in events:
            after = self.network.scene_after(scene, event)
            if after not in self.seen:
                self.keep(after, [*delivery, event])
                if self.is_end(after) and self.network.course.has_harm(after):
                    return True
        return False

    def keep(self, scene, delivery):
        if len(self.network.waiting_in(scene)) > MOST_WAITING:
            raise TooLarge(f"more than {MOST_WAITING} messages wait")
        if len(self.scenes) == MOST_KEPT:
            raise TooLarge(f"more than {MOST_KEPT} deliveries would be kept")
        self.seen[scene] = True
        self.scenes.append(scene)
        self.deliveries.append(delivery)

    def is_end(self, scene):
        """Tells whether the sender has stopped and nothing waits."""
        sender, _, _, _, _ = scene
        return sender is None and len(self.network.waiting_in(scene)) == 0
