"""Many rows at once, each as one whole number.

All waits that can come up with a name in one computation are known ahead of it: they are the ladder of this name,
a stretch of bits with one bit for each wait, the least wait lowest. The mask of a row has, for each of its names,
the bit of its wait and all lower bits of this ladder. So the row of all names of two rows, each with its greatest
wait, has the mask `one | other`, and a row lies within another one just if `one | other == other`.
"""


class Ladders:
    """The ladders of some names, and what is done with the masks of rows over them."""

    def __init__(self, entries):
        waits_of = {}
        for name, wait in entries:
            if name not in waits_of:
                waits_of[name] = {}
            waits_of[name][wait] = True
        self._ladders = []
        self._spans = []
        self._masks = {}
        place = 0
        for name in sorted(waits_of):
            waits = sorted(waits_of[name])
            for at, wait in enumerate(waits):
                self._masks[(name, wait)] = ((2 << at) - 1) << place
            self._ladders.append((name, waits, place))
            self._spans.append(((1 << len(waits)) - 1) << place)
            place = place + len(waits)

    def mask(self, row):
        """The mask of a row."""
        mask = 0
        for entry in row:
            mask = mask | self._masks[entry]
        return mask

    def row(self, mask):
        """The row that has a mask."""
        row = []
        for name, waits, place in self._ladders:
            height = ((mask >> place) & ((1 << len(waits)) - 1)).bit_length()
            if height > 0:
                row.append((name, waits[height - 1]))
        return row

    def least(self, masks):
        """The masks of those rows within which no other one of them lies, each once."""
        lone = list({mask: True for mask in masks})
        if len(lone) < 2:
            return lone
        tables = [(span, _places_up_to(lone, span)) for span in self._spans]
        found = []
        place = 1
        for mask in lone:
            within = -1
            for span, table in tables:
                within = within & table[mask & span]
            if within == place:
                found.append(mask)
            place = place << 1
        return found

    def joined(self, some, others):
        """The least masks of the rows of the greatest waits of one row of each of two lists of least masks."""
        # A row that has one of the other list within it is what comes of these two, and lies within
        # whatever else comes of it: so it stays alone, which spares most pairs.
        settled, bare = _settled_and_bare(some, others)
        settled_others, bare_others = _settled_and_bare(others, some)
        if not bare or not bare_others:
            return settled_others if bare else settled
        found = settled + settled_others
        for mask in bare:
            found.extend(_few_least([mask | other for other in bare_others]))
        return self.least(found)

    def ranked(self, rank, lists):
        """The least masks of the rows that a rank has, given those of each of its terms."""
        if rank == 1:
            return self.least([mask for masks in lists for mask in masks])
        if rank == len(lists):
            return self._all_joined(lists)
        # What is kept after some terms: for each number of terms chosen among them, the rows of these choices.
        kept = {0: [0]}
        left = len(lists)
        for masks in sorted(lists, key=len):
            left = left - 1
            following = {}
            for chosen in range(max(0, rank - left), rank + 1):
                found = list(kept.get(chosen, []))
                if chosen - 1 in kept:
                    found.extend(self.joined(kept[chosen - 1], masks))
                following[chosen] = self.least(found)
            kept = following
        return kept[rank]

    def _all_joined(self, lists):
        # What all rows of one list have stands in whatever comes out. Put into all rows ahead of all joining, it
        # leaves few of them; the shortest lists come first, as they leave the fewest rows to go on with.
        if [] in lists:
            return []
        floor = 0
        for masks in lists:
            floor = floor | _shared(masks)
        raised = {tuple(sorted(self.least([mask | floor for mask in masks]))): True for masks in lists}
        found = [floor]
        for masks in sorted(list(raised), key=len):
            found = self.joined(found, list(masks))
        return found


def _few_least(masks):
    """The least of some masks, of which few are left."""
    found = []
    # A row within another one has the lesser mask.
    for mask in sorted(set(masks)):
        if not any([mask | other == mask for other in found]):
            found.append(mask)
    return found


def _shared(masks):
    shared = masks[0]
    for mask in masks:
        shared = shared & mask
    return shared


def _settled_and_bare(masks, others):
    """The masks of those rows within which one of some others lies, and those of all other rows."""
    settled = []
    bare = []
    for mask in masks:
        if mask in [mask | other for other in others]:
            settled.append(mask)
        else:
            bare.append(mask)
    return (settled, bare)


def _places_up_to(masks, span):
    """For each stretch of bits that some mask has on a ladder, the places of all masks that have no more there.

    Places are bits of a whole number, the first mask's the lowest.
    """
    places_at = {}
    place = 1
    for mask in masks:
        height = mask & span
        places_at[height] = places_at.get(height, 0) | place
        place = place << 1
    up_to = {}
    places = 0
    for height in sorted(places_at):
        places = places | places_at[height]
        up_to[height] = places
    return up_to
