"""Which states are to be told apart: those from which not the same words lead to ends."""


class Parting:
    """The states, parted into blocks of those that nothing has told apart yet."""

    def __init__(self, states):
        self.block_of = [0] * states
        self.blocks = [list(range(states))]

    def part(self, states):
        """Parts each block into those of its states that are among these, and the others."""
        among = {}
        for state in states:
            among.setdefault(self.block_of[state], []).append(state)
        for block, inside in among.items():
            if len(inside) < len(self.blocks[block]):
                self.part_block(block, inside)

    def part_block(self, block, inside):
        """Parts the block into what's inside and the rest; the smaller one is the new block."""
        held = {}
        for state in inside:
            held[state] = True
        smaller = inside
        larger = [state for state in self.blocks[block] if state not in held]
        if len(larger) < len(smaller):
            smaller = larger
            larger = inside
        for state in smaller:
            self.block_of[state] = len(self.blocks)
        self.blocks.append(smaller)
        self.blocks[block] = larger


def blocks_apart(ends, steps):
    """For each state its block: two are in one just if the same words lead from both to ends."""
    parting = Parting(len(ends))
    parting.part([state for state, end in enumerate(ends) if end])
    sources = sources_of(steps)
    tried = 1
    # What is told apart by a block and by a part of it, is told apart by the rest of it, too.
    # So of each two parts only the new one, the smaller, is gone through.
    while tried < len(parting.blocks):
        for ahead in sources_by_class(sources, list(parting.blocks[tried])):
            parting.part(ahead)
        tried += 1
    return parting.block_of


def sources_of(steps):
    """For each class and each state those states that go on to it by the class."""
    sources = []
    for place in range(len(steps[0])):
        sources.append([[] for state in steps])
    for state, row in enumerate(steps):
        for place, to in enumerate(row):
            sources[place][to].append(state)
    return sources


def sources_by_class(sources, states):
    """For each class those states that go on to one of these by the class."""
    found = []
    for by_state in sources:
        ahead = []
        for state in states:
            ahead.extend(by_state[state])
        found.append(ahead)
    return found
