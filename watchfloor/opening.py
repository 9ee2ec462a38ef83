"""What lies on a disk while a deed is done, and stores that are opened from it."""

from watchfloor.blocks import block_in, in_span, put_block
from watchfloor.errors import Damaged
from watchfloor.logs import take_log
from watchfloor.stores import Store, widths_of


def open_store(lateness, span, factor, levels, *, floor, blocks, log):
    """Return a store made of the bytes of blocks and of a log, and how many bytes were left over."""
    found = read_blocks(widths_of(span, factor, levels), blocks)
    counting = sorted([block for place, block in enumerate(found) if is_counting(found, place, floor)])
    batches, left_over = take_log(log)
    kept = counting_batches(batches, floor, counting)
    store = Store(lateness, span, factor, levels)
    store.restore(floor, counting, kept, len(kept))
    return store, left_over


def read_blocks(widths, blocks):
    """Return the blocks with these bytes; raise Damaged for the first that a store of these widths cannot have."""
    found = []
    for place, data in enumerate(blocks):
        block = block_in(data)
        if block is None or block[1] not in widths or block[0] % block[1] != 0:
            raise Damaged(place)
        found.append(block)
    return found


def is_counting(blocks, place, floor):
    """Tell whether the block at a place counts beside the others and above a floor."""
    start, width, _ = blocks[place]
    if start + width <= floor:
        return False
    for at, (other, other_width, _) in enumerate(blocks):
        if other_width > width and in_span(other, other_width, start):
            return False
        if at < place and (other, other_width) == (start, width):
            return False
    return True


def counting_batches(batches, floor, blocks):
    """Return the batches with the samples that count beside blocks and above a floor, without empty ones."""
    known = {}
    found = []
    for batch in batches:
        kept = []
        for sample in batch:
            labels, time, _ = sample
            if time >= floor and not is_in_blocks(blocks, time) and (labels, time) not in known:
                known[labels, time] = True
                kept.append(sample)
        if kept:
            found.append(kept)
    return found


def is_in_blocks(blocks, time):
    """Tell whether a time lies in the span of one of the blocks."""
    return any(in_span(start, width, time) for start, width, _ in blocks)


def crashed(store):
    """Return what is opened from the disk of a store after a crash that loses all that is not synced."""
    lateness, span, factor, levels = store.settings()
    floor, blocks, log, synced = store.disk()
    return open_store(lateness, span, factor, levels, floor=floor, blocks=blocks, log=log[:synced])[0]


def stages(store, deed):
    """Return the disks of a store before a deed and after each of its writes."""
    word = deed[0]
    if word == "append":
        return stages_of_append(store, deed[1])
    if word == "sync":
        return stages_of_sync(store)
    if word == "seal":
        return stages_of_seal(store)
    if word == "compact":
        return stages_of_compact(store)
    return stages_of_retain(store, deed[1])


def disk_of(floor, blocks, log, synced):
    """Return a disk with lists of its own."""
    return floor, [list(data) for data in blocks], list(log), synced


def stages_of_append(store, samples):
    """Return the stages of appending samples."""
    twin = store.twin()
    twin.append(samples)
    return [store.disk(), twin.disk()]


def stages_of_sync(store):
    """Return the stages of syncing."""
    twin = store.twin()
    twin.sync()
    return [store.disk(), twin.disk()]


def stages_of_seal(store):
    """Return the stages of sealing."""
    found = stages_of_sync(store)
    floor, blocks, log, synced = found[-1]
    twin = store.twin()
    starts = twin.seal()
    for block in twin.blocks():
        if block[0] in starts:
            blocks = blocks + [put_block(block)]
            found.append(disk_of(floor, blocks, log, synced))
    if starts:
        _, _, log, synced = twin.disk()
        found.append(disk_of(floor, blocks, log, synced))
    return found


def stages_of_compact(store):
    """Return the stages of compaction."""
    found = stages_of_seal(store)
    floor, blocks, log, synced = found[-1]
    twin = store.twin()
    twin.seal()
    old = [put_block(block) for block in twin.blocks()]
    twin.compact()
    for block in twin.blocks():
        blocks = blocks + [put_block(block)]
        found.append(disk_of(floor, blocks, log, synced))
    for data in old:
        # The same block may have been written again; then the first one is the old one.
        at = blocks.index(data)
        blocks = blocks[:at] + blocks[at + 1:]
        found.append(disk_of(floor, blocks, log, synced))
    return found


def stages_of_retain(store, time):
    """Return the stages of retention with a time."""
    found = stages_of_sync(store)
    floor, blocks, log, synced = found[-1]
    if time <= floor:
        return found
    found.append(disk_of(time, blocks, log, synced))
    deleted = store.twin().retain(time)
    for _ in range(deleted):
        # Blocks ascend and do not overlap, so that those that end first stand first.
        blocks = blocks[1:]
        found.append(disk_of(time, blocks, log, synced))
    return found
