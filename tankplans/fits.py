"""Says whether what is told fits: numbers of facts, rooms, sets of facts, amounts, acts."""

MOST_FACTS = 3
MOST_STORES = 2
MOST_ROOM = 7
MOST_COST = 1000
ACT_NUMBERS = 5
STORE_NUMBERS = 4


def fact_count_fits(fact_count):
    return 1 <= fact_count and fact_count <= MOST_FACTS


def rooms_fit(rooms):
    if len(rooms) > MOST_STORES:
        return False
    for room in rooms:
        if room < 1 or room > MOST_ROOM:
            return False
    return True


def facts_fit(facts, fact_count):
    # What is left above the highest fact's bit are facts that there aren't.
    return (facts >> fact_count) == 0


def amounts_fit(amounts, rooms):
    if len(amounts) != len(rooms):
        return False
    for amount, room in zip(amounts, rooms):
        if amount > room:
            return False
    return True


def act_numbers_fit(numbers, fact_count):
    if len(numbers) != ACT_NUMBERS:
        return False
    for facts in numbers[:4]:
        if not facts_fit(facts, fact_count):
            return False
    cost = numbers[4]
    return 1 <= cost and cost <= MOST_COST


def act_store_fits(store, room):
    if len(store) != STORE_NUMBERS:
        return False
    for amount in store[:3]:
        if amount > room:
            return False
    return store[3] <= 1


def act_stores_fit(stores, rooms):
    if len(stores) != len(rooms):
        return False
    for store, room in zip(stores, rooms):
        if not act_store_fits(store, room):
            return False
    return True
