"""What a program says, as if keys that are called back were gone at once."""

from tagmachine.programs import check_fuel
from tagmachine.rows import Walk


def run(program, rooms, cells, boxes, fuel):
    """Do at most as many rows as fuel tells; tell what was said, the end, and how many rows were done."""
    walk = Walk(program, rooms, cells, boxes)
    check_fuel(fuel)
    while walk.outcome is None and walk.many_done < fuel:
        walk.do_row()
    return walk.told()
