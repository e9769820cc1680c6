"""Rows of requests, made as a store answers: to the last cell, then many blocks given back in no order."""


def some_requests(chance, store, room, many, held):
    """So many requests, (deed, number): each is told as soon as the one ahead was asked for.

    room tells how many cells may still be taken; held has the handles of the blocks that are there.
    """
    filling, sizes = True, store.sizes
    for _ in range(many):
        fits = [size for size in sizes if size <= room()]
        if filling and not fits:
            filling = False
        elif not filling and (not held or chance.randrange(2 * len(store.sizes) + 2) == 0):
            filling = True
            sizes = store.sizes[:chance.randrange(len(store.sizes)) + 1]
            fits = [size for size in sizes if size <= room()]
        if filling and fits:
            yield "take", chance.choice(fits)
        elif held:
            yield "give", chance.choice(sorted(held))
        elif room() >= store.sizes[0]:
            yield "take", store.sizes[0]


def walk(chance, store, room, many):
    """Ask a store for so many things, which it must not refuse; (request, told) behind each."""
    held = {}
    for deed, number in some_requests(chance, store, room, many, held):
        if deed == "take":
            told = store.take(number)
            held[told[0]] = number
        else:
            told = store.give(number)
            del held[number]
        yield (deed, number), told
