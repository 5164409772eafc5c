"""The people of a building as a flow through its places and minutes.

A plan is a flow: whoever waits or enters a way goes along an arc from a place and minute to another one. People come
from the node `rest`, and whoever is not out by the horizon ends there again; the others end at the node `out`.
"""

from emptying.limits import EXIT_PLACE
from emptying.network import Network


class Flow:
    """A flow in the building from now on; at first nobody enters a way.

    entering[number] is the arc of those who enter the way now.
    """

    def __init__(self, building):
        self.building = building
        self.rest = building.places * (building.horizon + 1)
        self.out_node = self.rest + 1
        self.everybody = building.total()
        self.network = Network(self.rest + 2)
        self.entering = []
        self.link_places()
        self.link_ways()

    def node(self, place, minute):
        """Gives the node of the place at the minute; a minute after the horizon is rest, wherever it is."""
        if minute > self.building.horizon:
            return self.rest
        return place * (self.building.horizon + 1) + minute

    def link_places(self):
        """Lets people come to the places other than the exit, and wait there."""
        for place in range(self.building.places):
            if place != EXIT_PLACE:
                for minute in range(self.building.now, self.building.horizon + 1):
                    here = self.node(place, minute)
                    self.network.link(self.rest, here, self.building.newly[place][minute])
                    self.network.link(here, self.node(place, minute + 1), self.everybody)

    def link_ways(self):
        """Lets people enter the ways in every minute before the horizon."""
        for way in self.building.ways:
            for minute in range(self.building.now, self.building.horizon):
                begin = self.node(way.origin, minute)
                end = self.node(way.target, minute + way.span)
                arc = self.network.link(begin, end, way.rates[minute])
                if minute == self.building.now:
                    self.entering.append(arc)

    def send_out(self, last):
        """Sends as many out as can be out by each later minute up to the last one.

        Gives for each of these minutes how many come out over the ways then, and keeps them so. The minutes are taken
        in turn, and what has come out is kept at once: it is as much as can be out by its minute, and sending more
        out at a later minute never takes it back.
        """
        coming_out = []
        for minute in range(self.building.now + 1, last + 1):
            arc = self.network.link(self.node(EXIT_PLACE, minute), self.out_node, self.everybody)
            coming_out.append(self.network.push(self.rest, self.out_node, self.everybody))
            self.network.freeze(arc)
        return coming_out

    def first_spare_minutes(self):
        """Gives for each place the first minute at which one more could be there, with as many out.

        This one more is somebody who is not sent out; others may have to go otherwise to make room on the ways. Where
        there is no such minute, the number is horizon + 1.
        """
        reached = self.network.reach(self.rest)
        found = []
        for place in range(self.building.places):
            minute = self.building.now
            # The node after the horizon is rest, which is reached: there this comes to its end.
            while self.node(place, minute) not in reached:
                minute += 1
            found.append(minute)
        return found

    def enter_most(self, arc):
        """Makes as many as possible go along the arc, keeps them there, and tells how many they are."""
        before = self.network.carried(arc)
        spare = self.network.spare(arc)
        self.network.freeze(arc)
        # More along the arc makes a circle with a flow from its end back to its beginning; as the arcs to the node
        # out are frozen, such a circle leaves everybody who is out as they are, so the plan stays best.
        return before + self.network.push(self.network.head_of(arc), self.network.tail_of(arc), spare)
