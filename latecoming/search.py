"""The search for the first harmful delivery."""

from latecoming.deliveries import Network, first_scene, has_harm, is_complete
from latecoming.errors import TooLarge

MOST_IN_TRANSIT = 6
MOST_KEPT = 1000


def first_harm(case, delays):
    """Returns the first harmful delivery, a list of events, or None."""
    search = Search(case, delays)
    if not search.ends_with_harm():
        return None
    return search.deliveries[-1]


def kept_scenes(case, delays):
    """Returns the scenes of all deliveries that the search keeps until it ends, in order."""
    search = Search(case, delays)
    search.ends_with_harm()
    return search.scenes


class Search:
    """The deliveries that a search has kept, in their order, and their scenes."""

    def __init__(self, case, delays):
        self.case = case
        self.network = Network(case, delays)
        self.scenes = []
        self.deliveries = []
        self.seen = {}

    def ends_with_harm(self):
        """Searches, and tells whether the last delivery that was kept is a harmful one."""
        self.keep(first_scene(self.case), [])
        at = 0
        while at < len(self.scenes):
            if self.extend_kept(at):
                return True
            at += 1
        return False

    def extend_kept(self, at):
        """Adds each possible event to a kept delivery, and tells whether one led to harm."""
        scene, delivery = self.scenes[at], self.deliveries[at]
        events = self.network.events_in(scene)
        for event in events:
            after = self.network.scene_after(scene, event)
            if after not in self.seen:
                self.keep(after, [*delivery, event])
                if is_complete(after) and has_harm(self.case, self.network.program, after):
                    return True
        return False

    def keep(self, scene, delivery):
        _, transit, _, _, _ = scene
        if len(transit) > MOST_IN_TRANSIT:
            raise TooLarge(f"more than {MOST_IN_TRANSIT} messages are in transit")
        if len(self.scenes) == MOST_KEPT:
            raise TooLarge(f"more than {MOST_KEPT} deliveries would be kept")
        self.seen[scene] = True
        self.scenes.append(scene)
        self.deliveries.append(delivery)
