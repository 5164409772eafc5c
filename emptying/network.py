"""Flows in a network of nodes and arcs."""


class Network:
    """Nodes, and arcs with the room that is left on them.

    Arcs come in pairs: the arc k ^ 1 has as much room as can be taken back from the arc k.
    """

    def __init__(self, nodes):
        self.leaving = [[] for node in range(nodes)]
        self.heads = []
        self.room = []

    def link(self, tail, head, room):
        """Adds an arc that can carry as much as room says, and gives its number."""
        arc = len(self.heads)
        self.leaving[tail].append(arc)
        self.leaving[head].append(arc + 1)
        self.heads.extend([head, tail])
        self.room.extend([room, 0])
        return arc

    def head_of(self, arc):
        """Gives the node where the arc ends."""
        return self.heads[arc]

    def tail_of(self, arc):
        """Gives the node where the arc begins."""
        return self.heads[arc ^ 1]

    def carried(self, arc):
        """Tells how much the arc carries."""
        return self.room[arc ^ 1]

    def spare(self, arc):
        """Tells how much more the arc can carry."""
        return self.room[arc]

    def freeze(self, arc):
        """Keeps what the arc carries as it is from now on."""
        self.room[arc] = 0
        self.room[arc ^ 1] = 0

    def push(self, start, goal, most):
        """Sends as much as possible from start to goal, at most as much as most says; tells how much."""
        pushed = 0
        while pushed < most:
            path = self.find_path(start, goal)
            if path is None:
                break
            amount = min([most - pushed] + [self.room[arc] for arc in path])
            for arc in path:
                self.room[arc] -= amount
                self.room[arc ^ 1] += amount
            pushed += amount
        return pushed

    def find_path(self, start, goal):
        """Gives the arcs of a path with room from start to goal, the last one first; None if there is no such path."""
        arc_to = self.reach(start)
        if goal not in arc_to:
            return None
        path = []
        node = goal
        while node != start:
            path.append(arc_to[node])
            node = self.tail_of(arc_to[node])
        return path

    def reach(self, start):
        """Gives, for each node to which arcs with room lead from start, the last arc to it; for start itself None."""
        arc_to = {start: None}
        reached = [start]
        position = 0
        while position < len(reached):
            for arc in self.leaving[reached[position]]:
                head = self.heads[arc]
                if self.room[arc] > 0 and head not in arc_to:
                    arc_to[head] = arc
                    reached.append(head)
            position += 1
        return arc_to
