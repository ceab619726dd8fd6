"""Of which version each was made, and the last one that two of them both come from.

A version's depth is how many versions it comes from beside itself. Beside the one it was made of, each keeps one
farther back, its jump. How far a jump goes hangs on the depth alone and is chosen so that from any version to any
that it comes from there are few steps, even in a chain of thousands.
"""

NONE = -1


class Origins:
    def __init__(self):
        self.sources = []
        self.depths = []
        self.jumps = []

    def add(self, source):
        """Adds the next version, made of source, which is a version before it or NONE."""
        if source == NONE:
            self.depths.append(0)
            self.jumps.append(len(self.sources))
        else:
            self.depths.append(self.depths[source] + 1)
            self.jumps.append(self.jump_from(source))
        self.sources.append(source)

    def jump_from(self, source):
        near = self.jumps[source]
        far = self.jumps[near]
        # Two jumps of the same length in a row are made one, twice as long.
        if self.depths[source] - self.depths[near] == self.depths[near] - self.depths[far]:
            return far
        return source

    def last_common(self, v, w):
        v = self.back_to_depth(v, self.depths[w])
        w = self.back_to_depth(w, self.depths[v])
        while v != w:
            if self.depths[v] == 0:
                return NONE
            # Where the jumps meet, what is sought may lie between.
            if self.jumps[v] == self.jumps[w]:
                v = self.sources[v]
                w = self.sources[w]
            else:
                v = self.jumps[v]
                w = self.jumps[w]
        return v

    def back_to_depth(self, v, depth):
        """What v comes from at that depth; v itself where it's no deeper."""
        while self.depths[v] > depth:
            jump = self.jumps[v]
            v = jump if self.depths[jump] >= depth else self.sources[v]
        return v
