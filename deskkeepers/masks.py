"""Sets of workers as integers: bit k is set if the k-th of a list of workers belongs to the set."""


def mask_of(workers, some):
    """Return the mask of those of the workers that are among some."""
    return sum([1 << at for at, worker in enumerate(workers) if worker in some])


def named(workers, mask):
    """Return the workers of the mask, in their order."""
    return [worker for at, worker in enumerate(workers) if (mask >> at) & 1 == 1]


def is_alone(mask):
    """Return whether the mask has at most one worker."""
    return mask & (mask - 1) == 0


def meets_all(masks, mask):
    """Return whether the mask has a worker in common with each of the masks."""
    for other in masks:
        if other & mask == 0:
            return False
    return True
