"""How each deed is done to a heap, and what it tells."""

from whokeeps.things import Watch, is_thing, new_thing

CANNOT = "no"


def do_make(heap, name, kind):
    return heap.bring(name, new_thing(heap.made, kind))


def do_num(heap, name, number):
    heap.names[name] = number
    return None


def do_copy(heap, name, other):
    heap.names[name] = heap.names[other]
    return None


def do_drop(heap, name):
    heap.names[name] = None
    return None


def do_put(heap, name, part, other):
    thing = heap.thing_of(name)
    if thing is None or not thing.fits(part):
        return CANNOT
    heap.store(thing, part, heap.names[other])
    return None


def do_take(heap, name, other, part):
    thing = heap.thing_of(other)
    if thing is None or not thing.has(part):
        return CANNOT
    heap.names[name] = thing.at(part)
    return heap.names[name]


def do_cut(heap, name, part):
    thing = heap.thing_of(name)
    if thing is None or not thing.has(part):
        return CANNOT
    heap.strike(thing, part)
    return None


def do_watch(heap, name, other):
    seen = heap.names[other]
    if not is_thing(seen):
        return CANNOT
    return heap.bring(name, Watch(heap.made, seen))


def do_last(heap, name, goal):
    thing = heap.thing_of(name)
    if thing is None or isinstance(thing, Watch) or thing.got_last:
        return CANNOT
    thing.got_last = True
    thing.due = True
    thing.goal = goal
    return None


def do_ask(heap, name, other):
    watch = heap.thing_of(other)
    if not isinstance(watch, Watch):
        return CANNOT
    # The name still holds what it held while the watches are told.
    heap.tell_watches()
    heap.names[name] = watch.sees
    return watch.sees


def do_settle(heap):
    told = []
    while True:
        heap.tell_watches()
        reach = heap.reach()
        turn = [number for number in heap.due_ones() if number not in reach]
        if not turn:
            return told
        # The turn stays as it is even where a goal in it brings another of it back into reach.
        for number in turn:
            heap.perform_last(number)
        told.extend(turn)


def do_say(heap, name):
    return heap.names[name]


ACTS = {
    "make": do_make,
    "num": do_num,
    "copy": do_copy,
    "drop": do_drop,
    "put": do_put,
    "take": do_take,
    "cut": do_cut,
    "watch": do_watch,
    "last": do_last,
    "ask": do_ask,
    "settle": do_settle,
    "say": do_say,
}


def act(heap, deed):
    """Does a deed that was found to be one; tells what it tells."""
    word, *parts = deed
    heap.change = None
    doing = ACTS[word]
    return doing(heap, *parts)
