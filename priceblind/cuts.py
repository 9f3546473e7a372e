"""What the disk may be behind a cut, without cutting it."""
from priceblind.disks import TRACKS, Disk, check_cell, check_disk


def twin(disk):
    """Another Disk with the same cells, the same strokes waiting, and as much of a fuse left."""
    check_disk(disk)
    other = Disk()
    other.cells = [dict(cells) for cells in disk.cells]
    other.strokes = list(disk.strokes)
    other.latest = [dict(latest) for latest in disk.latest]
    other.left = disk.left
    return other


def behind(disk, lands):
    """For each track what kept would tell behind this cut."""
    other = twin(disk)
    other.cut(lands)
    return tuple([other.kept(track) for track in range(TRACKS)])


def may_lie(disk, track, at):
    """All that the cell may hold behind a cut, ascending, each once."""
    check_disk(disk)
    check_cell(track, at)
    held = disk.cells[track].get(at, 0)
    return tuple(sorted(set([held] + [value for cell, value in disk.strokes if cell == (track, at)])))
