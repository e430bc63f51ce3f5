"""Games for the tests, solved without the program by the words of the promises: the tests compare it with them."""

import functools

import samples

LENGTHS = ([1], [2], [3], [1, 2], [1, 3], [2, 3], [1, 2, 3])


def contracts_up_to(size):
    """The size, limit, lengths and budget of contracts of few cells."""
    return [(cells, limit, lengths, budget) for cells in range(1, size + 1) for limit in range(cells + 2)
            for lengths in LENGTHS for budget in range(3)]


def live(layout):
    return len(samples.cells_of(layout))


def positions_by_trying(size, limit, lengths):
    """The positions, of all layouts."""
    return sorted(layout for layout in samples.block_lists(size)
                  if live(layout) <= limit and all(length in lengths for _, length in layout))


@functools.lru_cache(None)
def replies_by_trying(size, budget, blocks, length):
    """The replies to a request, of all starts of all blocks; starts and blocks are tuples here."""
    found = []
    for starts in samples.all_relocations(size, list(blocks)):
        price = samples.cells_moved(blocks, starts)
        if price <= budget:
            for start in samples.starts_that_fit(size, samples.moved_blocks(blocks, starts), length):
                found.append((price, tuple(starts), start))
    return [(starts, start, price) for price, starts, start in sorted(found)]


def behind(blocks, length, reply):
    """The blocks behind a reply."""
    starts, start, _ = reply
    return tuple(sorted(samples.moved_blocks(blocks, starts) + [(start, length)]))


class Solved:
    """A game solved by the words of promises 31 to 34, with tuples of blocks as positions."""

    def __init__(self, size, limit, lengths, budget):
        self.size, self.limit, self.lengths, self.budget = size, limit, lengths, budget
        self.positions = [tuple(layout) for layout in positions_by_trying(size, limit, lengths)]
        self.outcomes = {blocks: [(move, self.led_to(blocks, move)) for move in self.moves(blocks)]
                         for blocks in self.positions}
        self.ranks = self.ranks_by_rounds()

    def moves(self, blocks):
        allowed = [length for length in self.lengths if live(blocks) + length <= self.limit]
        return [("release", index) for index in range(len(blocks))] + [("request", length) for length in allowed]

    def replies(self, blocks, length):
        return replies_by_trying(self.size, self.budget, blocks, length)

    def led_to(self, blocks, move):
        kind, number = move
        if kind == "release":
            return {blocks[:number] + blocks[number + 1:]}
        return {behind(blocks, number, reply) for reply in self.replies(blocks, number)}

    def ranks_by_rounds(self):
        ranks = {}
        for rank in range(1, len(self.positions) + 2):
            within = set(ranks)
            for blocks in self.positions:
                if blocks not in within and any(led <= within for _, led in self.outcomes[blocks]):
                    ranks[blocks] = rank
        return ranks

    def manager_reply(self, blocks, length):
        found = self.replies(blocks, length)
        ranks = [self.ranks.get(behind(blocks, length, reply)) for reply in found]
        if not found:
            return None
        return found[ranks.index(None) if None in ranks else ranks.index(max(ranks))]

    def program_move(self, blocks):
        if blocks not in self.ranks:
            return None
        smaller = {other for other, rank in self.ranks.items() if rank < self.ranks[blocks]}
        return [move for move, led in self.outcomes[blocks] if led <= smaller][0]
