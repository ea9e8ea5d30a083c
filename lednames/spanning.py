"""How many trees hang on the root of a graph."""


def count_trees(edges):
    """Return the number of trees of all vertices that hang on vertex 0.

    `edges` has for each vertex the vertices to which its edges lead, as the keys of a dict, with the number of edges.
    All vertices can be come to from vertex 0.
    """
    graph = Graph(edges)
    number = graph.join_all()
    kept = sorted(graph.into)
    # By the theorem of matrices and trees. No leading minor is 0, since each one counts trees, too.
    return number * determinant([[graph.entry(before, after) for after in kept] for before in kept])


class Graph:
    """For each vertex but 0, the vertices from which edges lead to it, and for all those to which they lead."""

    def __init__(self, edges):
        self.into = {vertex: {} for vertex in range(1, len(edges))}
        self.out = [{} for vertex in edges]
        for before, after in enumerate(edges):
            for vertex, many in after.items():
                self.put_edges(before, vertex, many)

    def put_edges(self, before, after, many):
        # An edge to vertex 0 or from a vertex to itself is in no tree.
        if after > 0 and after != before:
            self.into[after][before] = self.into[after].get(before, 0) + many
            self.out[before][after] = True

    def join_all(self):
        """Join each vertex to the only one from which edges lead to it; return how many choices there are for these."""
        number = 1
        waiting = sorted(self.into, reverse=True)
        while waiting:
            vertex = waiting.pop()
            if vertex in self.into and len(self.into[vertex]) == 1:
                before, many = list(self.into[vertex].items())[0]
                number *= many
                waiting.extend(self.join_to(before, vertex))
        return number

    def join_to(self, before, vertex):
        """Let all edges of a vertex begin at the one ahead of it; return the vertices to which they lead."""
        del self.into[vertex]
        del self.out[before][vertex]
        after = list(self.out[vertex])
        for end in after:
            self.put_edges(before, end, self.into[end].pop(vertex))
        return after

    def entry(self, before, after):
        if before == after:
            return sum(list(self.into[after].values()))
        return -self.into[after].get(before, 0)


def determinant(rows):
    """Return the determinant of a matrix of numbers none of whose leading minors is 0, in whole numbers."""
    last = 1
    for at in range(len(rows) - 1):
        first = rows[at]
        for row in rows[at + 1:]:
            for column in range(at + 1, len(rows)):
                row[column] = (row[column] * first[at] - row[at] * first[column]) // last
        last = first[at]
    if not rows:
        return 1
    return rows[-1][-1]
