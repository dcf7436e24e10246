"""How what is there is told, number by number."""

NONE = -1


def tell_turn(turn):
    return NONE if turn is None else turn


def tell_row(numbers):
    return [len(numbers)] + list(numbers)


def tell_events(events):
    told = [len(events)]
    for event in events:
        told.extend([event.what, event.value])
        told.extend(tell_row(event.path))
    return told


def tell_entries(entries):
    told = [len(entries)]
    for path, value in entries:
        told.append(value)
        told.extend(tell_row(path))
    return told


def tell_letter(letter):
    told = [letter.kind, letter.client, letter.number]
    told.extend(tell_row(letter.path))
    told.extend([tell_turn(letter.behind), letter.turn])
    told.extend(tell_events(letter.events))
    told.extend(tell_entries(letter.entries))
    return told


def tell_letters(letters):
    told = [len(letters)]
    for letter in letters:
        told.extend(tell_letter(letter))
    return told


def tell_client(client):
    told = [client.number]
    told.extend(tell_row(client.path))
    told.extend([tell_turn(client.up_to), client.since, client.events_had, client.pictures_had])
    told.extend(tell_entries(client.entries_in_order()))
    return told


def tell_sessions(seen):
    told = [len(seen)]
    for session in seen:
        told.extend([session, seen[session]])
    return told


def tell_watchers(watchers):
    told = [len(watchers)]
    for watcher in watchers:
        told.extend([watcher.client, watcher.number, watcher.last])
        told.extend(tell_row(watcher.path))
    return told


def tell_house(house):
    told = [house.time, house.last_turn(), house.base, len(house.nodes), house.opened]
    told.extend(tell_sessions(house.seen))
    told.extend(tell_watchers(house.watchers))
    return told
